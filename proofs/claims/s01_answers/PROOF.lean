import PyProof.Rows.All
import PySem.Challenge.RW_tideskies_s01_answers
import KE.OsHead
import KE.OsGo
import Wide.All
import OpenK.AllK
import Wide.FinOn
import PyProof.EqAt
import PyProof.EqKinds
import PyProof.TupleCall
import KE.BitLaws
import Open.SpecLaws
import PyProof.StationsW
import PyProof.PassesOwn
import PyProof.ExcArgsOwn
import PyProof.ExcInit
import PyProof.ExcBaseAll.Exception
import PyProof.ExcAttrAll.Exception
import PyProof.InstStoreFacts
import PyProof.InstLoad
import KE.KDictList
import TideSkiesSpec
import PyWqaccn
set_option Elab.async false
set_option linter.all false
set_option maxRecDepth 100000
set_option maxHeartbeats 2000000
set_option bootstrap.genMatcherCode false
set_option compiler.extract_closed false
namespace Hd
open PySem PySem.W PyProof.Rows
structure G where
 os:List (List Obj)
 n:Nat
 t:Nat
 g:List DictEntry
 c:List Value
 s:List DictEntry
 m:Value
def fl:Str := "/claim/cut.py"
def ri (n:Nat):Value := .int (Int.ofNat n) 0
def tup (l:List Value):Obj:=⟨.type "tuple",none,.seq ⟨l⟩,#[]⟩
def fds (v:Value) (l:List Value):Obj:=⟨v,none,.fields ⟨l⟩,#[]⟩
def en (P:Params) (k:Str) (t:Nat) (v:Value):DictEntry:=⟨PyData.keyHash P k,.str k t,v⟩
def txs (t:Nat):List Str→List Value
 | []=>[]
 | s::l => .str s t::txs (t+1) l
def cod (nm q:Str) (t l a k r b f:Nat) (isF:Bool) (x y z:Value) (u:Nat):Obj :=
 fds (.type "code") [.str nm t,.str q (t+1),.str fl (t+2),ri l,ri a,ri 0,ri 0,ri k,.ref r,.bool isF,ri 181,.ref f,.none,x,y,z,ri u,ri l,.str fl (u+1)]
def fn (m:Value) (q:Str) (n t:Nat) (nm:Str) (a:Arguments) (b:List Stmt) (sc:Scope) (pos:Pos):List Obj×Nat×Nat :=
 let f (g:Addr) (m c:Value):FuncData:={name:=nm,qualname:=q,params:=a,body := .stmts b,scope:=sc,globals:=g,closure:=[],defaults := .none,kwdefaults := .none,pyModule:=m,code:=c}
 match localNames a sc (.stmts b) with
 | some (l,_) =>
  let u:=t+3+l.length
  ([tup [],fds .none [],tup (txs (t+3) l),tup [],⟨.none,none,.func (f 0 .none .none),#[]⟩,cod nm q t pos.line a.args.length 3 n 0 (n+1) true (.ref (n+2)) (.ref (n+3)) (.ref (n+4)) u,
   ⟨.type "function",none,.func (f 3 m (.ref (n+5))),#[]⟩],n+7,u+2)
 | none =>
  ([tup [],fds .none [],⟨.none,none,.func (f 0 .none .none),#[]⟩,cod nm q t pos.line a.args.length 3 n 0 (n+1) true .none .none (.ref (n+2)) (t+3),
   ⟨.type "function",none,.func (f 3 m (.ref (n+3))),#[]⟩],n+5,t+5)
def ms (P:Params) (m:Value) (q:Str):List Stmt→Nat→Nat→List Obj×Nat×Nat×List Value×List DictEntry
 | .FunctionDef nm a b _ _ _ sc _ _ pos::r,n,t =>
  let x:=fn m (q ++ "." ++ nm) n t nm a b sc pos
  let y:=ms P m q r x.2.1 (x.2.2+1)
  (x.1++y.1,y.2.1,y.2.2.1,ri pos.line::ri pos.col :: .ref (x.2.1-2)::y.2.2.2.1,en P nm x.2.2 (.ref (x.2.1-1))::y.2.2.2.2)
 | _::r,n,t=>ms P m q r n t
 | [],n,t=>([],n,t,[],[])
def obj (v:Value) (d:Data):Obj:=⟨v,none,d,#[]⟩
def put (l:List DictEntry) (k:Nat) (e:DictEntry):List DictEntry:=l.set k e
def one (P:Params) (x:G):Stmt→G
 | .Assign [.Name k _] (.Constant (.str s) _ _) _ =>
  match x.t == 187||decide (k = "__name__") with
  | true=>{x with t:=x.t+2,m := .str s x.t,g:=match x.g with | e::r=>{e with val := .str s x.t}::r | []=>[]}
  | false=>{x with t:=x.t+2,g:=x.g++[en P k (x.t+1) (.str s x.t)]}
 | .Assign [.Name k _] (.Constant (.int i) _ _) _=>{x with t:=x.t+2,g:=x.g++[en P k (x.t+1) (.int i x.t)]}
 | .Assign [.Name k _] (.UnaryOp _ (.Constant (.int i) _ _) _) _=>{x with t:=x.t+3,g:=x.g++[en P k (x.t+2) (.int (-i) (x.t+1))]}
 | .FunctionDef nm a b _ _ _ sc _ _ pos =>
  let y:=fn x.m nm x.n x.t nm a b sc pos
  {x with os:=y.1::x.os,n:=y.2.1,t:=y.2.2+1,g:=x.g++[en P nm y.2.2 (.ref (y.2.1-1))],c:=x.c++[ri pos.line,ri pos.col,.ref (y.2.1-2)]}
 | .ClassDef nm bs _ b _ _ _ _ _ st pos =>
  let n:=x.n
  let t:=x.t
  let y:=ms P x.m nm b (n+7) (t+12)
  let k:=y.2.1
  let u:=y.2.2.1+st.length
  let C:=k+2
  let ex := !bs.isEmpty
  let E:=Value.type "Exception"
  let e1:=en P "__module__" (t+7) x.m
  let e3:=en P "__firstlineno__" (t+11) (.int (Int.ofNat pos.line) (t+10))
  let e5:=y.2.2.2.2++[en P "__static_attributes__" u (.ref k)]
  let w:=if ex then u+1 else u+3
  let d:=if ex then [] else [en P "__dict__" (u+2) (.ref (C+1))]
  let a1:=[tup (if ex then [E] else []),fds (.type "builtin_function_or_method") [.builtin "type.__prepare__",.type "type"],
   obj (.type "dict") (.dict ⟨e1::en P "__qualname__" (t+9) (.str nm (t+8))::e3::e5⟩ (e5.length+3)),tup [],fds .none y.2.2.2.1,cod nm nm (t+2) pos.line 0 0 (n+3) 0 (n+4) false .none .none .none (t+5),
   ⟨.type "frame",none,.plain,#[some (.ref (n+5)),some (.ref 3),some (.ref (n+2)),none,some x.m,none,some (.ref 0)]⟩]
  let a2:=[tup (txs y.2.2.1 st),obj (.type "dict") (.dict ⟨e1::e3::e5++d++[en P "__weakref__" (w+1) (.ref (if ex then C+1 else C+2)),en P "__doc__" (w+2) .none]⟩ (if ex then 3 else 4)),
   ⟨.type "type",none,.cls {name:=nm,bases:=[if ex then E else .type "object"],mro := .ref C::(if ex then [E,.type "BaseException"] else [])++[.type "object"],ns:=k+1,qualname:=nm},
    #[if ex then some (.ref n) else none,none,some (.str nm t),some (.str nm (t+8)),some (.builtin (if ex then "Exception.__new__" else "object.__new__")),some (.bool true)]⟩] ++
   (if ex then [] else [fds (.type "getset_descriptor") [.str "__dict__" (u+1),.ref C,.builtin "function.__dict__",.builtin "function.__dict__#set"]]) ++
   [fds (.type "getset_descriptor") [.str "__weakref__" w,.ref C,.builtin "ExceptionGroup.__weakref__",.none],fds (.type "super") [.ref C,.ref C,.ref C],fds (.type "builtin_function_or_method") [.builtin "object.__init_subclass__",.ref C]]
  let z:=if ex then w+6 else w+4
  let s:=if ex then (match x.s with
   | a::b::r=>a::{b with val:=ri (r.length+2)}::r++[en P ("type.__subclasses__.Exception." ++ (match r.length with | 0 => "1" | 1 => "2" | _ => "3")) (w+3) (ri C)]
   | _=>[en P "type.__subclasses__.Exception.0" (w+3) (ri C),en P "type.__subclasses__.Exception.n" (w+4) (ri 1)]) else x.s
  {x with s:=s,os:=a2::y.1::a1::x.os,n:=if ex then C+4 else C+5,t:=z+1,g:=x.g++[en P nm z (.ref C)],c:=x.c++[ri pos.line,ri pos.col,.ref (n+5)]}
 | .Assign [.Name k _] (.Tuple es _ _) _ =>
  let vs:=es.zipIdx.map fun p=>match p.1 with | .Constant (.int i) _ _=>Value.int i (x.t+p.2) | _ => .none
  {x with os:=[tup vs]::x.os,n:=x.n+1,t:=x.t+es.length+1,g:=x.g++[en P k (x.t+es.length) (.ref x.n)]}
 | _=>x
def ents (o:Obj):List DictEntry:=match o.data with
 | .dict es _=>es.toList
 | _=>[]
noncomputable def st0 (P:Params):G:=⟨[],15,187,ents (boot_o_3 P),[],ents (boot_o_2 P),.none⟩
def run (P:Params):G→List Stmt→G
 | x,[]=>x
 | x,s::r=>run P (one P x s) r
noncomputable def ob (P:Params) (x:G):List Obj :=
 boot_o_0 P::boot_o_1 P::obj .none (.dict ⟨x.s⟩ x.s.length)::obj (.type "dict") (.dict ⟨x.g⟩ x.g.length)::boot_o_4 P::boot_o_5 P::boot_o_6 P::boot_o_7 P::boot_o_8 P::boot_o_9 P::boot_o_10 P ::
 tup []::fds .none x.c::cod "<module>" "<module>" 182 1 0 0 11 0 12 false .none .none .none 185::⟨.type "frame",none,.plain,#[some (.ref 13),some (.ref 3),some (.ref 3),none,some (.str "__main__" 164),none,some (.ref 0)]⟩::x.os.reverse.flatten
def alt:List Obj→List Obj×List Obj
 | []=>([],[])
 | x::l=>(x::(alt l).2,(alt l).1)
def bt:Nat→List Obj→BT
 | f+1,x::l => .node x (bt f (alt l).1) (bt f (alt l).2)
 | _,_ => .nil
end Hd
namespace Hd
open PySem PySem.W PyProof.Rows
abbrev pw:=PySem.Challenge.pw_tideskies_s01_answers
theorem tw0:((fun (_:Params→List Obj)=>true) fun P=>ob P (run P (st0 P) (behindTheImports PySem.Challenge.pw_tideskies_s01_answers)))=true:=by k_qdec
def env (p:Program):Env:={scope:=p.main.scope,locals:=mainNs,globals:=mainNs,cells:=[],code := .ref 13,frame:=some 14}
noncomputable def ST (P:Params) (x:G) (os:OsState):SharedT:=⟨bt 11 (ob P x),x.n,{},#[],{},x.t,os⟩
end Hd
namespace Hd
open PySem PySem.W PyProof.Rows
theorem pc0 (w:World) (os:OsState):segRunT treeTable pw w 11 (some (.ref 6)) 1 736 (ST w.params (run w.params (st0 w.params) ((behindTheImports pw).take 0)) os) (piecesOf (((behindTheImports pw).drop 0).take 9) (env pw) (.body (behindTheImports pw) (env pw)) ⟨0,0,0,0⟩ [topFrame ⟨0,0,0,0⟩]) =
 some (.next,ST w.params (run w.params (st0 w.params) ((behindTheImports pw).take 9)) os,.body (behindTheImports pw) (env pw),⟨19,0,26,24⟩):=by
 unfold ST pw
 rewrite [PySem.W.Fast.te10110043849684766642,PySem.W.Fast.te14364793385576792824,PySem.W.Fast.te12427700447954389169,PySem.W.Fast.te6594704324880220032,PySem.W.Fast.te9607758334338149082]
 kernel_rfl
theorem pc1 (w:World) (os:OsState):segRunT treeTable pw w 11 (some (.ref 6)) 1 711 (ST w.params (run w.params (st0 w.params) ((behindTheImports pw).take 9)) os) (piecesOf (((behindTheImports pw).drop 9).take 9) (env pw) (.body (behindTheImports pw) (env pw)) ⟨19,0,26,24⟩ [topFrame ⟨0,0,0,0⟩]) =
 some (.next,ST w.params (run w.params (st0 w.params) ((behindTheImports pw).take 18)) os,.body (behindTheImports pw) (env pw),⟨50,0,51,8⟩):=by
 unfold ST pw
 rewrite [PySem.W.Fast.te10110043849684766642,PySem.W.Fast.te14364793385576792824,PySem.W.Fast.te12427700447954389169,PySem.W.Fast.te6594704324880220032,PySem.W.Fast.te9607758334338149082]
 kernel_rfl
theorem pc2 (w:World) (os:OsState):segRunT treeTable pw w 11 (some (.ref 6)) 1 830 (ST w.params (run w.params (st0 w.params) ((behindTheImports pw).take 18)) os) (piecesOf (((behindTheImports pw).drop 18).take 14) (env pw) (.body (behindTheImports pw) (env pw)) ⟨50,0,51,8⟩ [topFrame ⟨0,0,0,0⟩]) =
 some (.next,ST w.params (run w.params (st0 w.params) ((behindTheImports pw).take 32)) os,.body (behindTheImports pw) (env pw),⟨103,0,104,39⟩):=by
 unfold ST pw
 rewrite [PySem.W.Fast.te10110043849684766642,PySem.W.Fast.te14364793385576792824,PySem.W.Fast.te12427700447954389169,PySem.W.Fast.te6594704324880220032,PySem.W.Fast.te9607758334338149082]
 kernel_rfl
theorem pc3 (w:World) (os:OsState):segRunT treeTable pw w 11 (some (.ref 6)) 1 839 (ST w.params (run w.params (st0 w.params) ((behindTheImports pw).take 32)) os) (piecesOf (((behindTheImports pw).drop 32).take 18) (env pw) (.body (behindTheImports pw) (env pw)) ⟨103,0,104,39⟩ [topFrame ⟨0,0,0,0⟩]) =
 some (.next,ST w.params (run w.params (st0 w.params) ((behindTheImports pw).take 50)) os,.body (behindTheImports pw) (env pw),⟨204,0,212,46⟩):=by
 unfold ST pw
 rewrite [PySem.W.Fast.te10110043849684766642,PySem.W.Fast.te14364793385576792824,PySem.W.Fast.te12427700447954389169,PySem.W.Fast.te6594704324880220032,PySem.W.Fast.te9607758334338149082]
 kernel_rfl
theorem pc4 (w:World) (os:OsState):segRunT treeTable pw w 11 (some (.ref 6)) 1 673 (ST w.params (run w.params (st0 w.params) ((behindTheImports pw).take 50)) os) (piecesOf (((behindTheImports pw).drop 50).take 30) (env pw) (.body (behindTheImports pw) (env pw)) ⟨204,0,212,46⟩ [topFrame ⟨0,0,0,0⟩]) =
 some (.next,ST w.params (run w.params (st0 w.params) ((behindTheImports pw).take 80)) os,.body (behindTheImports pw) (env pw),⟨352,0,352,4⟩):=by
 unfold ST pw
 rewrite [PySem.W.Fast.te10110043849684766642,PySem.W.Fast.te14364793385576792824,PySem.W.Fast.te12427700447954389169,PySem.W.Fast.te6594704324880220032,PySem.W.Fast.te9607758334338149082]
 kernel_rfl
theorem pc5 (w:World) (os:OsState):segRunT treeTable pw w 11 (some (.ref 6)) 1 707 (ST w.params (run w.params (st0 w.params) ((behindTheImports pw).take 80)) os) (piecesOf (((behindTheImports pw).drop 80).take 3) (env pw) (.body (behindTheImports pw) (env pw)) ⟨352,0,352,4⟩ [topFrame ⟨0,0,0,0⟩]) =
 some (.next,ST w.params (run w.params (st0 w.params) ((behindTheImports pw).take 83)) os,.body (behindTheImports pw) (env pw),⟨366,0,371,28⟩):=by
 unfold ST pw
 rewrite [PySem.W.Fast.te10110043849684766642,PySem.W.Fast.te14364793385576792824,PySem.W.Fast.te12427700447954389169,PySem.W.Fast.te6594704324880220032,PySem.W.Fast.te9607758334338149082]
 kernel_rfl
theorem pc6 (w:World) (os:OsState):segRunT treeTable pw w 11 (some (.ref 6)) 1 767 (ST w.params (run w.params (st0 w.params) ((behindTheImports pw).take 83)) os) (piecesOf (((behindTheImports pw).drop 83).take 22) (env pw) (.body (behindTheImports pw) (env pw)) ⟨366,0,371,28⟩ [topFrame ⟨0,0,0,0⟩]) =
 some (.next,ST w.params (run w.params (st0 w.params) ((behindTheImports pw).take 105)) os,.body (behindTheImports pw) (env pw),⟨456,0,456,11⟩):=by
 unfold ST pw
 rewrite [PySem.W.Fast.te10110043849684766642,PySem.W.Fast.te14364793385576792824,PySem.W.Fast.te12427700447954389169,PySem.W.Fast.te6594704324880220032,PySem.W.Fast.te9607758334338149082]
 kernel_rfl
theorem pc7 (w:World) (os:OsState):segRunT treeTable pw w 11 (some (.ref 6)) 1 839 (ST w.params (run w.params (st0 w.params) ((behindTheImports pw).take 105)) os) (piecesOf (((behindTheImports pw).drop 105).take 13) (env pw) (.body (behindTheImports pw) (env pw)) ⟨456,0,456,11⟩ [topFrame ⟨0,0,0,0⟩]) =
 some (.next,ST w.params (run w.params (st0 w.params) ((behindTheImports pw).take 118)) os,.body (behindTheImports pw) (env pw),⟨524,0,524,13⟩):=by
 unfold ST pw
 rewrite [PySem.W.Fast.te10110043849684766642,PySem.W.Fast.te14364793385576792824,PySem.W.Fast.te12427700447954389169,PySem.W.Fast.te6594704324880220032,PySem.W.Fast.te9607758334338149082]
 kernel_rfl
theorem pc8 (w:World) (os:OsState):segRunT treeTable pw w 11 (some (.ref 6)) 1 420 (ST w.params (run w.params (st0 w.params) ((behindTheImports pw).take 118)) os) (piecesOf (((behindTheImports pw).drop 118).take 7) (env pw) (.body (behindTheImports pw) (env pw)) ⟨524,0,524,13⟩ [topFrame ⟨0,0,0,0⟩]) =
 some (.next,ST w.params (run w.params (st0 w.params) ((behindTheImports pw).take 125)) os,.body (behindTheImports pw) (env pw),⟨586,0,587,36⟩):=by
 unfold ST pw
 rewrite [PySem.W.Fast.te10110043849684766642,PySem.W.Fast.te14364793385576792824,PySem.W.Fast.te12427700447954389169,PySem.W.Fast.te6594704324880220032,PySem.W.Fast.te9607758334338149082]
 kernel_rfl
end Hd

namespace Hd
open PySem PySem.W PyProof.Rows
def keep:List Nat:=(List.range 125).filter fun i => !([0,11,21,29,34,41,62,76,91,101,108].contains i)
noncomputable def q:Program:=view PySem.Challenge.pw_tideskies_s01_answers keep
noncomputable def xf (P:Params):G:=run P (st0 P) ((behindTheImports PySem.Challenge.pw_tideskies_s01_answers).take 125)
noncomputable def hp (P:Params):Heap:=⟨⟨ob P (xf P)⟩,{}⟩
noncomputable def sf (P:Params) (os:OsState):Shared:=⟨hp P,#[],{},1471,os⟩
noncomputable def Xt (s:Shared):Bool:=xlAt q [] s&&recOk [] s
theorem tw1:((fun (_:Params→OsState→Program×Shared×(Shared→Bool))=>true) fun P os=>(q,sf P os,Xt))=true:=by k_qdec
abbrev an:Option Value:=some (.ref 6)
theorem pre (w:World) (os:OsState):topGo treeTable pw w 11 (some (.ref 6)) 12 ⟨boot_heap w.params,#[],boot_drawn,boot_toks,os⟩ (topStub pw) =
 some ((ST w.params (st0 w.params) os).abs,⟨denote treeTable (.body (behindTheImports pw) (env pw)),.body (behindTheImports pw) (env pw),⟨0,0,0,0⟩,[topFrame ⟨0,0,0,0⟩]⟩):=by
 unfold ST pw
 rewrite [PySem.W.Fast.te15667345088766844465,PySem.W.Fast.te11892475500146522536,PySem.W.Fast.te14364793385576792824,PySem.W.Fast.te12427700447954389169,PySem.W.Fast.te6594704324880220032]
 kernel_rfl
theorem blk (w:World) (os:OsState):segRun treeTable pw w 11 (some (.ref 6)) 1 1 (ST w.params (st0 w.params) os).abs (blockOf (behindTheImports pw) (env pw) (.body (behindTheImports pw) (env pw)) ⟨0,0,0,0⟩ [topFrame ⟨0,0,0,0⟩]) =
 some (.next,(ST w.params (st0 w.params) os).abs,.body (behindTheImports pw) (env pw),⟨0,0,0,0⟩):=by
 unfold ST pw
 rewrite [PySem.W.Fast.te14374325043358763698,PySem.W.Fast.te14364793385576792824,PySem.W.Fast.te12427700447954389169,PySem.W.Fast.te6594704324880220032]
 kernel_rfl
theorem fin (w:World) (s:Shared) (c:Code) (pos:Pos):topRun treeTable pw w 11 (some (.ref 6)) 2 s ⟨doneF .next,c,pos,[topFrame ⟨0,0,0,0⟩]⟩=some s:=by
 kernel_rfl
theorem end_ (P:Params) (os:OsState):(ST P (run P (st0 P) ((behindTheImports pw).take 125)) os).abs=sf P os:=by
 unfold ST pw
 rewrite [PySem.W.Fast.te1411772811429616804,PySem.W.Fast.te9607758334338149082,PySem.W.Fast.te6594704324880220032,PySem.W.Fast.te12427700447954389169]
 kernel_rfl
theorem bst (w:World):((boot_heap w.params).isNs mainGlobals&&(#[]:Array GenState).size == 0,(boot_heap w.params).objs.size,(boot_heap w.params).nsMap mainGlobals "__annotations__")=(true,11,some (.ref 6)):=by
 kernel_rfl
theorem L1 (w:World) (os:OsState):(staticsOk (importedModules pw.main.body) (boot_heap w.params) (hp w.params)&&namesBound pw (hp w.params)&&gensDone (sf w.params os)&&laidKept (boot_heap w.params) (hp w.params))=true:=by
 unfold pw
 rewrite [PySem.W.Fast.te1411772811429616804,PySem.W.Fast.te9505440597568319845,PySem.W.Fast.te5923862056798008813,PySem.W.Fast.te12427700447954389169]
 kernel_rfl
theorem L2 (w:World) (os:OsState):seen ((recsOf q).map (·.name)) (ownsOf q) [] {sf w.params os with gens := #[]}=expectedOf q:=by
 rewrite [PySem.W.Fast.te1411772811429616804,PySem.W.Fast.te5991557255702980513,PySem.W.Fast.te3399658132070893891,PySem.W.Fast.te5160383126252970620,PySem.W.Fast.te16679763427565415256]
 kernel_rfl
theorem L3 (w:World) (os:OsState):(sf w.params os).heap.bltView=bltViewBooted:=by
 rewrite [PySem.W.Fast.te1411772811429616804]
 kernel_rfl
theorem L4 (w:World) (os:OsState):((sf w.params os).heap.keysOk (looseW q []) ((recsOf q).map (·.name)) ((litsOf q).map (·.1)) ((clssOf q (looseW q [])).map (·.name))&&(sf w.params os).heap.accountedOkI (importedModules pw.main.body)&&(sf w.params os).heap.isNs mainGlobals&&(sf w.params os).heap.isNs builtinsNs&&tablesOk q (sf w.params os).heap&&Xt (sf w.params os)&&(if true then (sf w.params os).gens.size == 0 else !leftWithCleanup (sf w.params os).gens))=true:=by
 unfold pw
 rewrite [PySem.W.Fast.te10760755477691350941,PySem.W.Fast.te10994771534591457954,PySem.W.Fast.te5923862056798008813,PySem.W.Fast.te14722251495701143533,PySem.W.Fast.te13664370479719496447,PySem.W.Fast.te7409074990110511671,PySem.W.Fast.te3399658132070893891,PySem.W.Fast.te821141287760084731,PySem.W.Fast.te1411772811429616804,PySem.W.Fast.te10880121769531294198,PySem.W.Fast.te16679763427565415256,PySem.W.Fast.te12427700447954389169]
 kernel_rfl
theorem L5 (w:World) (os:OsState):tabsOk q (sf w.params os)=true:=by
 rewrite [PySem.W.Fast.te1411772811429616804,PySem.W.Fast.te479339242167458305,PySem.W.Fast.te16679763427565415256]
 kernel_rfl
theorem L6 (w:World) (os:OsState):pinSeenD q (drecsOf q) (sf w.params os)=pinGoodD (drecsOf q):=by
 rewrite [PySem.W.Fast.te1411772811429616804,PySem.W.Fast.te3247288618530077131,PySem.W.Fast.te16090120013241838585,PySem.W.Fast.te16679763427565415256]
 kernel_rfl
theorem L7 (w:World) (os:OsState):plainSeenE q (looseW q []) (sf w.params os)=plainGoodE q (looseW q []):=by
 rewrite [PySem.W.Fast.te1411772811429616804,PySem.W.Fast.te821141287760084731,PySem.W.Fast.te2386780881361962483,PySem.W.Fast.te16679763427565415256]
 kernel_rfl
theorem L8 (w:World) (os:OsState):plainSeenD q [] (sf w.params os)=plainGoodD q []:=by
 rewrite [PySem.W.Fast.te1411772811429616804,PySem.W.Fast.te11698064438423848299,PySem.W.Fast.te16679763427565415256]
 kernel_rfl
theorem L9 (w:World) (os:OsState):wideSeen q (sf w.params os)=wideGood q:=by
 rewrite [PySem.W.Fast.te1411772811429616804,PySem.W.Fast.te7317090234206586261,PySem.W.Fast.te16679763427565415256]
 kernel_rfl
theorem L10 (w:World) (os:OsState):clsSeenW q [] (sf w.params os)=clsGoodW q []:=by
 rewrite [PySem.W.Fast.te1411772811429616804,PySem.W.Fast.te7369524293546568484,PySem.W.Fast.te16679763427565415256]
 kernel_rfl
end Hd

namespace Hd
open PySem PySem.W PyProof.Rows
theorem bl:behindTheImports pw=((behindTheImports pw).drop 0).take 9++(((behindTheImports pw).drop 9).take 9++(((behindTheImports pw).drop 18).take 14++(((behindTheImports pw).drop 32).take 18++(((behindTheImports pw).drop 50).take 30++(((behindTheImports pw).drop 80).take 3++(((behindTheImports pw).drop 83).take 22++(((behindTheImports pw).drop 105).take 13++(((behindTheImports pw).drop 118).take 7++[])))))))):=by kernel_rfl
theorem rn (w:World) (os:OsState):topRun treeTable pw w 11 (some (.ref 6)) (12+(1+(736+(711+(830+(839+(673+(707+(767+(839+(420+2))))))))))) ⟨boot_heap w.params,#[],boot_drawn,boot_toks,os⟩ (topStub pw)=some (sf w.params os):=by
 rw [← end_ w.params os];exact go_top (n:=12) (pre w os) (piece_block (n:=1) (blk w os) ((congrArg (fun l=>topRun treeTable pw w 11 (some (.ref 6)) _ _ (restOf l (env pw) _ _ _)) bl).trans (piece_app (segRun_of (pc0 w os)) (piece_app (segRun_of (pc1 w os)) (piece_app (segRun_of (pc2 w os)) (piece_app (segRun_of (pc3 w os)) (piece_app (segRun_of (pc4 w os)) (piece_app (segRun_of (pc5 w os)) (piece_app (segRun_of (pc6 w os)) (piece_app (segRun_of (pc7 w os)) (piece_app (segRun_of (pc8 w os)) (piece_nil (fin w _ _ _)))))))))))))
theorem sn (w:World) (os:OsState):openSeen q [] (importedModules pw.main.body) Xt true (sf w.params os)=openGood q []:=by
 unfold openSeen openGood;rw [L2,L3,L4,L5,L6,L7,L8,L9,L10]
theorem left:LeftO pw q [] Xt (fun s=>s.heap) (fun w=>hp w.params) 13152 :=
 LeftO.of_pieces (H₁ := hp) (boot_open (by kernel_rfl) (by decide) (fun s=>by kernel_rfl)) bst rn (by decide) fun w=>funext fun os=>by
  show (_,openSeen q [] (importedModules pw.main.body) Xt true (sf w.params os),hp w.params)=_;rw [sn];exact congrArg (·,openGood q [],hp w.params) (L1 w os)
def kz:Nat→List Obj→Frag
 | _,[]=>[]
 | i,o::l=>(i,o)::kz (i+1) l
theorem kz_lt:∀(l:List Obj) (i a:Nat),a<i→(kz i l).lookup a=none
 | [],_,_,_=>rfl
 | x::l,i,a,h=>by
  unfold kz;rw [List.lookup_cons,show (a == i)=false from beq_eq_false_iff_ne.mpr (by omega)];exact kz_lt l _ _ (by omega)
theorem kz_at:∀(l:List Obj) (i j:Nat),(kz i l).lookup (i+j)=l[j]?
 | [],_,_=>rfl
 | x::l,i,0=>by
  unfold kz;rw [List.lookup_cons,Nat.add_zero,beq_self_eq_true];rfl
 | x::l,i,j+1=>by
  unfold kz;rw [List.lookup_cons,show (i+(j+1) == i)=false from beq_eq_false_iff_ne.mpr (by omega),show i+(j+1)=i+1+j by omega];exact kz_at l _ _
def nf:Obj→Bool
 | ⟨_,_,.freed,_⟩=>false
 | _=>true
noncomputable def K (P:Params):Frag:=kz 0 (ob P (xf P))
theorem K_nf (P:Params):(ob P (xf P)).all nf=true:=by
 rewrite [PySem.W.Fast.te37951217925796186,PySem.W.Fast.te6594704324880220032]
 kernel_rfl
theorem K_in (P:Params):(K P).In (hp P):=fun a o h=>by
 have e:=kz_at (ob P (xf P)) 0 a;rw [Nat.zero_add] at e;have h':(ob P (xf P))[a]?=some o:=e.symm.trans h;have n:=List.all_eq_true.mp (K_nf P) o (List.mem_of_getElem? h');unfold Heap.get?;rw [show (hp P).objs[a]?=some o from List.getElem?_toArray.trans h'];obtain⟨_,_,d,_⟩:=o;cases d <;> first | rfl | cases n
end Hd

section
namespace L2
open PySem PySem.Spec PyProof.Rows
abbrev Key:=Sum Int Str
def keyIs:Key→Value→Bool
 | .inl k,v=>Value.isInt k v
 | .inr x,v=>Value.isStrOf x v
def keyH (w:World):Key→Int
 | .inl k=>hashInt k
 | .inr x=>hashStr w x
theorem eJ:∀{k:Key} {v:Value},keyIs k v=true→(∃i t,k=Sum.inl i∧v=Value.int i t)∨(∃x t,k=Sum.inr x∧v=Value.str x t)
 | .inl i,v,h=>by
  obtain⟨t,e⟩:=Value.isInt_shape (k:=i) (v:=v) h;exact .inl ⟨i,t,rfl,e⟩
 | .inr x,v,h=>by
  obtain⟨t,e⟩:=Value.isStrOf_shape (x:=x) (v:=v) h;exact .inr ⟨x,t,rfl,e⟩
theorem xEz (i:Int) (t:Tok):keyIs (.inl i) (.int i t)=true:=by simp [keyIs,Value.isInt]
theorem xDz (x:Str) (t:Tok):keyIs (.inr x) (.str x t)=true:=by simp [keyIs,Value.isStrOf]
theorem key_ll (a b:Int):decide ((Sum.inl a:Key)=Sum.inl b)=(a == b):=by
 by_cases e:a=b
 ·subst e;simp
 ·have h:¬ (Sum.inl a:Key)=Sum.inl b:=fun q=>e (Sum.inl.inj q)
  rw [decide_eq_false h];exact (beq_eq_false_iff_ne.mpr e).symm
theorem key_rr (a b:Str):decide ((Sum.inr a:Key)=Sum.inr b)=decide (a=b):=by
 by_cases e:a=b
 ·subst e;simp
 ·have h:¬ (Sum.inr a:Key)=Sum.inr b:=fun q=>e (Sum.inr.inj q)
  rw [decide_eq_false h,decide_eq_false e]
theorem key_lr (a:Int) (b:Str):decide ((Sum.inl a:Key)=Sum.inr b)=false:=decide_eq_false (fun q=>nomatch q)
theorem key_rl (a:Str) (b:Int):decide ((Sum.inr a:Key)=Sum.inl b)=false:=decide_eq_false (fun q=>nomatch q)
def mixKind (prog:Program) (w:World):PySem.KeyKind prog w Key where
 is:=keyIs
 hash:=keyH w
 inj:=fun v a b ha hb=>by
  rcases eJ ha with ⟨i,t,rfl,rfl⟩ | ⟨x,t,rfl,rfl⟩
  ·rcases eJ hb with ⟨j,u,rfl,e⟩ | ⟨y,u,rfl,e⟩
   ·injection e with e1 _;rw [e1]
   ·exact nomatch e
  ·rcases eJ hb with ⟨j,u,rfl,e⟩ | ⟨y,u,rfl,e⟩
   ·exact nomatch e
   ·injection e with e1 _;rw [e1]
 byValue:=fun k v h=>by
  rcases eJ h with ⟨i,t,rfl,rfl⟩ | ⟨x,t,rfl,rfl⟩ <;> rfl
 pyHash:=fun hv h=>by
  rcases eJ hv with ⟨i,t,rfl,rfl⟩ | ⟨x,t,rfl,rfl⟩
  ·exact wpAny_pyHash_int h
  ·exact wpAny_pyHash_str h
 eqBool:=fun hu hv h=>by
  rcases eJ hu with ⟨i,t,rfl,rfl⟩ | ⟨x,t,rfl,rfl⟩
  ·rcases eJ hv with ⟨j,u,rfl,rfl⟩ | ⟨y,u,rfl,rfl⟩
   ·rw [key_ll] at h;exact wpAny_eqBool_int h
   ·rw [key_lr] at h;exact SeqAt.EqAt.int_str i t y u _ _ _ _ h
  ·rcases eJ hv with ⟨j,u,rfl,rfl⟩ | ⟨y,u,rfl,rfl⟩
   ·rw [key_rl] at h;exact SeqAt.EqAt.str_int x t j u _ _ _ _ h
   ·rw [key_rr] at h;exact wpAny_eqBool_str h
 «strs» := fun k x t v h=>by
  rcases eJ h with ⟨i,u,rfl,e⟩ | ⟨y,u,rfl,e⟩
  ·exact nomatch e
  ·injection e with e1 _
   subst e1;cases v <;> rfl
theorem pRz (prog:Program) (w:World) (i:Int) (t:Tok):(mixKind prog w).is (.inl i) (.int i t)=true:=xEz i t
theorem pQz (prog:Program) (w:World) (x:Str) (t:Tok):(mixKind prog w).is (.inr x) (.str x t)=true:=xDz x t
end L2
namespace L2
open PySem PySem.Spec PyProof.Rows
inductive V where
 | non | bl (b:Bool) | int (i:Int) | str (x:Str) | byt (b:Array UInt8) | flt (b:UInt64) | ref (a:Addr) | ty (n:String)
 deriving DecidableEq
def RelV:V→Value→Prop
 | .non,u=>u=Value.none
 | .bl b,u=>u=Value.bool b
 | .int i,u=>∃t,u=Value.int i t
 | .str x,u=>∃t,u=Value.str x t
 | .byt b,u=>∃t,u=Value.bytes b t
 | .flt b,u=>∃t,u=Value.float b t
 | .ref a,u=>u=Value.ref a
 | .ty n,u=>u=Value.type n
abbrev Vals:List V→List Value→Prop:=Paired RelV
theorem Vals.length {xs:List V} {us:List Value} (r:Vals xs us):xs.length=us.length:=Paired.length r
theorem Vals.get:∀{xs:List V} {us:List Value} {i:Nat} {x:V},Vals xs us→xs[i]?=some x→∃u,us[i]?=some u∧RelV x u
 | _,_,_,_,.nil,e=>by simp at e
 | _,_,0,_,.cons r _,e=>by simp at e;subst e;exact⟨_,rfl,r⟩
 | _,_,i+1,x,.cons _ t,e=>by
  obtain⟨u,h1,h2⟩:=Vals.get (i:=i) (x:=x) t (by simpa using e);exact⟨u,by simpa using h1,h2⟩
theorem Vals.append:∀{xs ys:List V} {us ws:List Value},Vals xs us→Vals ys ws→Vals (xs++ys) (us++ws)
 | _,_,_,_,.nil,s=>s
 | _,_,_,_,.cons r t,s => .cons r (Vals.append t s)
theorem Vals.take:∀{xs:List V} {us:List Value} (n:Nat),Vals xs us→Vals (xs.take n) (us.take n)
 | _,_,0,_ => .nil
 | _,_,_+1,.nil => .nil
 | _,_,n+1,.cons r t => .cons r (Vals.take n t)
theorem Vals.drop:∀{xs:List V} {us:List Value} (n:Nat),Vals xs us→Vals (xs.drop n) (us.drop n)
 | _,_,0,r=>r
 | _,_,_+1,.nil => .nil
 | _,_,n+1,.cons _ t=>Vals.drop n t
def RelO:Option V→Option Value→Prop
 | some v,some u=>RelV v u
 | none,none=>True
 | _,_=>False
def KV {κ : Type}:List (κ×V)→List (κ×Value)→Prop:=Paired fun (p : κ×V) (q : κ×Value)=>p.1=q.1∧RelV p.2 q.2
def kV:Key→V
 | .inl i => .int i
 | .inr x => .str x
inductive HO where
 | lst (xs:List V)
 | tup (xs:List V)
 | dK (kvs:List (Key×V)) | dT (kvs:List (List Key×V))
 | set (S:Int→Bool) (n:Nat)
 | ins (C dx:Addr) (fs:List (Str×V))
 | own (x:Addr)
 | xd (fs:List (Str×V))
 | met (f x:Addr)
 | rng (lo hi:Int)
 | frz (o:Obj) (u:HO)
 | tbl (ps:Array Value)
 | ext (φ : Heap→Prop)
abbrev Hp:=Addr→Option HO
def upd (H:Hp) (a:Addr) (o:HO):Hp:=fun b=>if b=a then some o else H b
theorem aC {H:Hp} {a:Addr} {o:HO}:upd H a o a=some o:=by unfold upd;rw [if_pos rfl]
theorem aO {H:Hp} {a b:Addr} {o:HO} (h:b≠a):upd H a o b=H b:=by unfold upd;rw [if_neg h]
theorem cE {H:Hp} {a:Addr} {o u:HO}:upd (upd H a o) a u=upd H a u:=by
 funext b;unfold upd;split <;> rfl
theorem nBz {H:Hp} {a b:Addr} {o u:HO} (h:H a=some o) (h':H b=some u) (d:o≠u):a≠b:=by
 intro e;subst e;rw [h] at h';exact d (Option.some.inj h')
theorem aX {H:Hp} {a b:Addr} {o:HO} (h:H a=some o) (h':H b=none):a≠b:=by
 intro e;subst e;rw [h] at h';cases h'
section
variable (P:Program) (w:World)
def eY (H:Hp) (h:Heap) (a:Addr):HO→Prop
 | .lst xs=>xs.length≤sizeLine∧∃(its:List Value) (n:Nat),Vals xs its∧h.get? a=some {cls := .type "list",data := .seq its.toArray n}
 | .tup xs=>xs.length≤sizeLine∧∃its:List Value,Vals xs its∧IsTup h a its.toArray
 | .dK kvs=>kvs.length≤sizeLine∧(a == sysModules)=false∧∃vs,KV kvs vs∧h.DictOf (mixKind P w) a vs
 | .dT kvs=>kvs.length≤sizeLine∧(a == sysModules)=false∧∃xs:List (List Key×Addr×Value),
   Paired (fun (p:List Key×V) (q:List Key×Addr×Value)=>p.1=q.1∧H q.2.1=some (.tup (p.1.map kV))∧RelV p.2 q.2.2) kvs xs∧
   ∃o es ep,h.get? a=some o∧o.ExactDict∧o.data = .dict es ep∧es.toList=xs.map (entryOfKey (tupleKind (mixKind P w)))∧(xs.map (·.1)).Nodup
 | .set S n=>h.SetOf (intKind P w) a S n
 | .ins C dx fs=>H dx=some (.own a)∧fs.length≤1000∧dx≠a∧h.get? a=some (W.instObj C dx)∧
   ∃mA,h.Ns1 dx mA∧(∀f,RelO (fs.lookup f) (mA f))∧PySem.Within mA (fs.map (·.1))
 | .own _=>∃o,h.get? a=some o
 | .xd fs=>∃mA,h.Ns1 a mA∧∀f,RelO (fs.lookup f) (mA f)
 | .rng lo hi=>∃t u v,h.get? a=some {cls := .type "range",data := .fields #[.int lo t,.int hi u,.int 1 v]}
 | .frz o u=>h.get? a=some o∧eY H h a u
 | .tbl ps=>h.get? a=some {cls := .none,data := .fields ps}
 | .met f x=>h.get? a=some (W.methodObj (.ref f) (.ref x))
 | .ext φ => φ h∧(∃o,h.get? a=some o)∧∀h1 h2:Heap,φ h1→(∀o,h1.get? a=some o→h2.get? a=some o)→φ h2
def HOk (H:Hp) (h:Heap):Prop := ∀a o,H a=some o→eY P w H h a o
end
section
variable {P:Program} {w:World} {H H':Hp} {h h':Heap} {a:Addr} {o:HO}
theorem eY.lt (x:eY P w H h a o):a<h.objs.size:=by
 cases o with
 | lst xs=>obtain⟨_,_,_,_,e⟩:=x;exact Heap.lt_size e
 | tup xs=>obtain⟨_,_,_,p⟩:=x;exact p.lt
 | dK kvs=>obtain⟨_,_,_,_,o,_,_,e,_⟩:=x;exact Heap.lt_size e
 | dT kvs=>obtain⟨_,_,_,_,o,_,_,e,_⟩:=x;exact Heap.lt_size e
 | set S n=>obtain⟨o,_,_,_,e,_⟩:=x;exact Heap.lt_size e
 | ins C dx fs=>obtain⟨_,_,_,e,_⟩:=x;exact Heap.lt_size e
 | own y=>obtain⟨_,e⟩:=x;exact Heap.lt_size e
 | xd fs=>obtain⟨_,⟨_,_,_,e,_⟩,_⟩:=x;exact Heap.lt_size e
 | rng lo hi=>obtain⟨_,_,_,e⟩:=x;exact Heap.lt_size e
 | frz ob u=>obtain⟨e,_⟩:=x;exact Heap.lt_size e
 | tbl ps=>exact Heap.lt_size (show h.get? a=some _ from x)
 | met f y=>exact Heap.lt_size (show h.get? a=some _ from x)
 | ext φ => obtain⟨_,⟨_,e⟩,_⟩:=x;exact Heap.lt_size e
theorem Paired.mapP {α β : Type} {F G : α→β→Prop}:∀{l₁ : List α} {l₂ : List β},Paired F l₁ l₂→(∀a b,F a b→G a b)→Paired G l₁ l₂
 | _,_,.nil,_ => .nil
 | _,_,.cons r t,f => .cons (f _ _ r) (Paired.mapP t f)
theorem eY.stay (x:eY P w H h a o) (k:∀b u,(b=a∨H b=some (.own a))→h.get? b=some u→h'.get? b=some u)
  (ho:∀b,H b=some (.own a)→H' b=some (.own a)) (ht:∀b xs,H b=some (.tup xs)→H' b=some (.tup xs)):eY P w H' h' a o:=by
 induction o with
 | lst xs=>obtain⟨z,its,n,r,e⟩:=x;exact⟨z,its,n,r,k _ _ (.inl rfl) e⟩
 | tup xs=>obtain⟨z,its,r,ob,e,c⟩:=x;exact⟨z,its,r,ob,k _ _ (.inl rfl) e,c⟩
 | dK kvs=>obtain⟨z,y,vs,r,ob,es,ep,e,c⟩:=x;exact⟨z,y,vs,r,ob,es,ep,k _ _ (.inl rfl) e,c⟩
 | dT kvs =>
  obtain⟨z,y,xs,r,ob,es,ep,e,c⟩:=x;exact⟨z,y,xs,Paired.mapP r fun p q z=>⟨z.1,ht _ _ z.2.1,z.2.2⟩,ob,es,ep,k _ _ (.inl rfl) e,c⟩
 | set S n=>obtain⟨ob,es,ep,t,e,c⟩:=x;exact⟨ob,es,ep,t,k _ _ (.inl rfl) e,c⟩
 | ins C dx fs =>
  obtain⟨d,z,ne,e,mA,⟨od,es,ep,e2,c⟩,r⟩:=x;exact⟨ho _ d,z,ne,k _ _ (.inl rfl) e,mA,⟨od,es,ep,k _ _ (.inr d) e2,c⟩,r⟩
 | own y=>obtain⟨ob,e⟩:=x;exact⟨ob,k _ _ (.inl rfl) e⟩
 | xd fs=>obtain⟨mA,⟨od,es,ep,e,c⟩,r⟩:=x;exact⟨mA,⟨od,es,ep,k _ _ (.inl rfl) e,c⟩,r⟩
 | rng lo hi=>obtain⟨t,u,v,e⟩:=x;exact⟨t,u,v,k _ _ (.inl rfl) e⟩
 | frz ob u ih=>obtain⟨e,q⟩:=x;exact⟨k _ _ (.inl rfl) e,ih q⟩
 | tbl ps =>
  have e:h.get? a=some {cls := .none,data := .fields ps}:=x;show h'.get? a=some {cls := .none,data := .fields ps};exact k a _ (.inl rfl) e
 | met f y =>
  have e:h.get? a=some (W.methodObj (.ref f) (.ref y)):=x;show h'.get? a=some (W.methodObj (.ref f) (.ref y));exact k a _ (.inl rfl) e
 | ext φ => obtain⟨p,⟨o,e⟩,st⟩:=x;exact⟨st _ _ p fun o q=>k _ _ (.inl rfl) q,⟨o,k _ _ (.inl rfl) e⟩,st⟩
theorem HOk.lt (x:HOk P w H h) (e:H a=some o):a<h.objs.size:=(x a o e).lt
theorem HOk.fresh (x:HOk P w H h) (e:h.objs.size≤a):H a=none:=by
 cases q:H a with
 | none=>rfl
 | some u=>exact absurd (Nat.lt_of_lt_of_le (x.lt q) e) (Nat.lt_irrefl _)
theorem HOk.kept (x:HOk P w H h) (k:∀b u,h.get? b=some u→h'.get? b=some u):HOk P w H h':=fun a o e =>
 (x a o e).stay (fun b u _ q=>k b u q) (fun _ q=>q) fun _ _ q=>q
theorem HOk.laid (x:HOk P w H h) (k:∀b u,h.get? b=some u→h'.get? b=some u) (hp:h.objs.size≤a) (new:eY P w (upd H a o) h' a o):HOk P w (upd H a o) h':=fun b u e=>by
 have hn:=x.fresh hp
 by_cases hb:b=a
 ·subst hb;rw [aC] at e;cases e;exact new
 ·rw [aO hb] at e
  exact (x b u e).stay (fun c v _ q=>k c v q) (fun c q=>by rw [aO (aX q hn)];exact q) fun c xs q=>by rw [aO (aX q hn)];exact q
end
def Rd (H:Hp) (a:Addr) (u:HO):Prop:=H a=some u∨∃o,H a=some (.frz o u)
theorem Rd.ok {P:Program} {w:World} {H:Hp} {h:Heap} {a:Addr} {u:HO} (r:Rd H a u) (x:HOk P w H h):eY P w H h a u:=by
 rcases r with r | ⟨o,r⟩
 ·exact x a u r
 ·obtain⟨_,q⟩:=x a _ r
  exact q
def Mut:Option HO→Prop
 | some (.lst _)=>True
 | some (.dK _)=>True
 | some (.dT _)=>True
 | some (.set _ _)=>True
 | some (.ins _ _ _)=>True
 | some (.ext _)=>True
 | _=>False
section
variable {P:Program} {w:World} {H:Hp} {h h':Heap} {x e:Addr} {o':HO}
theorem HOk.write (ok:HOk P w H h) (mu:Mut (H x)) (he:e=x∨H e=some (.own x)) (k:∀b u,b≠e→h.get? b=some u→h'.get? b=some u) (heo:∃u,h'.get? e=some u)
  (new:eY P w (upd H x o') h' x o'):HOk P w (upd H x o') h':=fun b u q=>by
 have nown:∀c y,H c=some (.own y)→c≠x:=fun c y r z=>by subst z;rw [r] at mu;exact mu
 have ntup:∀c xs,H c=some (.tup xs)→c≠x:=fun c xs r z=>by subst z;rw [r] at mu;exact mu
 by_cases hb:b=x
 ·subst hb;rw [aC] at q;cases q;exact new
 ·rw [aO hb] at q
  by_cases hbe:b=e
  ·have q':H b=some (.own x):=by
    rcases he with z | z
    ·exact absurd (hbe.trans z) hb
    ·rw [hbe];exact z
   rw [q] at q';cases q';obtain⟨v,hv⟩:=heo;exact⟨v,by rw [hbe];exact hv⟩
  ·refine (ok b u q).stay (fun c v hc r=>k c v ?_ r) (fun c r=>by rw [aO (nown c b r)];exact r) fun c xs r=>by rw [aO (ntup c xs r)];exact r
   rcases hc with rfl | hc
   ·exact hbe
   ·rintro rfl
    rcases he with z | z
    ·exact nown c b hc z
    ·rw [hc] at z;cases z;exact hb rfl
end
structure Un (fs ex:List Addr) (H H':Hp) (h h':Heap):Prop where
 keep:∀b o,h.get? b=some o→H b=none→b∉fs→b∉ex→h'.get? b=some o
 slot:∀b o,h.get? b=some o→H b=none→b∈fs→b∉ex→∃sl,h'.get? b=some {o with slots:=sl}
 free:∀b o,h.get? b=some o→H b=none→b∉ex→H' b=none
 there:∀b o,h.get? b=some o→b∉ex→∃o',h'.get? b=some o'
 tups:∀b xs,H b=some (.tup xs)→H' b=some (.tup xs)
 frzs:∀b o u,H b=some (.frz o u)→H' b=some (.frz o u)
 tbls:∀b ps,H b=some (.tbl ps)→∃more,H' b=some (.tbl (ps++more))
section
variable {fs fs' ex ex':List Addr} {H H1 H2:Hp} {h h1 h2 h':Heap} {a x e:Addr} {o:HO}
theorem Un.any (u:Un fs ex H H1 h h1) {b:Addr} {ob:Obj} (q:h.get? b=some ob) (n:H b=none) (hx:b∉ex):∃sl,h1.get? b=some {ob with slots:=sl}:=by
 by_cases hb:b∈fs
 ·exact u.slot b ob q n hb hx
 ·exact⟨ob.slots,u.keep b ob q n hb hx⟩
theorem Un.kept (k:∀b u,h.get? b=some u→h'.get? b=some u):Un fs ex H H h h' :=
 ⟨fun b ob q _ _ _=>k b ob q,fun b ob q _ _ _=>⟨ob.slots,k b ob q⟩,fun _ _ _ n _=>n,fun b ob q _=>⟨ob,k b ob q⟩,fun _ _ q=>q,fun _ _ _ q=>q,fun _ ps q=>⟨#[],by rw [q];simp⟩⟩
theorem Un.refl:Un fs ex H H h h:=Un.kept fun _ _ q=>q
theorem Un.laid (k:∀b u,h.get? b=some u→h'.get? b=some u) (hp:h.objs.size≤a) (hn:H a=none):Un fs ex H (upd H a o) h h' where
 keep:=fun b u q _ _ _=>k b u q
 slot:=fun b u q _ _ _=>⟨u.slots,k b u q⟩
 free:=fun b u q n _=>by rw [aO (Nat.ne_of_lt (Nat.lt_of_lt_of_le (Heap.lt_size q) hp))];exact n
 there:=fun b u q _=>⟨u,k b u q⟩
 tups:=fun b xs q=>by rw [aO (aX q hn)];exact q
 frzs:=fun b u xs q=>by rw [aO (aX q hn)];exact q
 tbls:=fun b ps q=>⟨#[],by rw [aO (aX q hn),q];simp⟩
theorem Un.write (mu:Mut (H x)) (he:e=x∨H e=some (.own x)) (k:∀b u,b≠e→h.get? b=some u→h'.get? b=some u) (heo:∃u,h'.get? e=some u):Un fs ex H (upd H x o) h h':=by
 have hx:∀b,H b=none→b≠x:=fun b n z=>by subst z;rw [n] at mu;exact mu
 have hb:∀b,H b=none→b≠e:=fun b n z=>by
  subst z;rcases he with r | r
  ·exact hx b n r
  ·rw [n] at r;cases r
 have hm:∀b u,H b=some u→¬ Mut (some u)→b≠x:=fun b u q nm z=>by subst z;rw [q] at mu;exact nm mu
 refine⟨fun b u q n _ _=>k b u (hb b n) q,fun b u q n _ _=>⟨u.slots,k b u (hb b n) q⟩,fun b u q n _=>by rw [aO (hx b n)];exact n,fun b u q _=>?_,
  fun b xs q=>by rw [aO (hm b _ q fun z=>z)];exact q,fun b u xs q=>by rw [aO (hm b _ q fun z=>z)];exact q,fun b ps q=>⟨#[],by rw [aO (hm b _ q fun z=>z),q];simp⟩⟩
 by_cases hbe:b=e
 ·subst hbe;exact heo
 ·exact⟨u,k b u hbe q⟩
end
def trk (h:Heap) (H:Hp):List Addr:=(List.range h.objs.size).filter fun a=>(H a).isSome
def hidT (h:Heap) (H:Hp):Heap:=W.hideAll h (trk h H)
theorem xPz (h:Heap) (H:Hp):(hidT h H).objs.size=h.objs.size:=W.hideAll_size _ _
theorem zSz {h:Heap} {H:Hp} {b:Addr} {o:Obj} (e:h.get? b=some o) (n:H b=none):(hidT h H).get? b=some o :=
 W.hideAll_get _ e fun hm=>by
  have q:(H b).isSome=true:=(List.mem_filter.mp hm).2;rw [n] at q;simp at q
theorem B3z {h:Heap} {H:Hp} {b:Addr} {o:Obj} (e:(hidT h H).get? b=some o):h.get? b=some o∧H b=none:=by
 have e':h.get? b=some o:=W.of_hideAll (trk h H) e;refine⟨e',?_⟩;cases q:H b with
 | none=>rfl
 | some x =>
  have hm:b∈trk h H:=List.mem_filter.mpr ⟨List.mem_range.mpr (Heap.lt_size e'),by simp [q]⟩;have z:(hidT h H).get? b=none:=W.hideAll_none (trk h H) hm;rw [z] at e;cases e
end L2
namespace L2
open PySem PySem.Spec PyProof.Rows
structure Mod (K:W.Frag) (mg:Str→Option Value) (base:Heap):Prop where
 kin:K.In base
 glob:base.Ns mainGlobals mg
 blt:∃mb,base.Ns builtinsNs mb∧∀x:Str,x≠"__name__"→mb x=bootBuiltins x
 nolimit:base.NoLimit
structure Cx where
 prog:Program
 w:World
 K:W.Frag
 mg:Str→Option Value
 base:Heap
 A:Around
 N:List Str
 s_0:Shared
 H_0:Hp
 env:Env
 outer:List Env
 stack:List Env
 ex:List Addr
 fn:Str→Bool
 calm:Bool
 pn:List (Addr×Obj)
 xe:Value→Shared→Prop
def frs (l:List Env):List Addr:=l.filterMap (·.frame)
abbrev Cx.fs (X:Cx):List Addr:=frs X.outer
def Vis (sc:Scope) (x:Str):Prop:=sc.names.lookup x=some .local∨sc.names.lookup x=some .cell∨sc.names.lookup x=some .free
def Loc (sc:Scope) (x:Str):Prop:=sc.names.lookup x=some .local∨sc.names.lookup x=some .cell
def Look (env:Env) (h:Heap) (m:Str→Option Value) (x:Str) (u:Value):Prop :=
 (env.kindOf x=some .local∧m x=some u)∨((env.kindOf x=some .cell∨env.kindOf x=some .free)∧∃c,env.cells.lookup x=some c∧h.IsCell c (some u))
structure Cx.Ok (X:Cx):Prop where
 mod:Mod X.K X.mg X.base
 kind:X.env.scope.kind = .function
 glob:X.env.globals=mainGlobals
 blt:X.env.builtins=builtinsNs
 above:X.s_0.heap.objs.size≤X.env.locals
 inj:∀x y c,X.env.cells.lookup x=some c→X.env.cells.lookup y=some c→x=y
 has:∀x,(X.env.kindOf x=some .cell∨X.env.kindOf x=some .free)→∃c,X.env.cells.lookup x=some c
 cab:∀x c,X.fn x=true→X.env.cells.lookup x=some c→X.s_0.heap.objs.size≤c
 hd:X.calm=true→X.A.handled=none
 frames:X.A.frames=some X.stack
 stk:X.stack=X.outer∨(X.stack=X.env::X.outer∧X.env.frame=some X.env.locals)
 exf:∀b∈X.ex,b≠X.env.locals∧∀x c,X.env.cells.lookup x=some c→c≠b
 bs:∀b o,X.base.get? b=some o→X.s_0.heap.get? b=some o∧X.H_0 b=none
 bsz:X.base.objs.size≤X.s_0.heap.objs.size
 noex:∀b o,X.base.get? b=some o→b∉X.ex
 exfs:∀b∈X.ex,b∉X.fs
 funs:X.s_0.heap.FunFrames X.base X.outer
 frf:∀b∈X.fs,X.H_0 b=none
structure Inv (X:Cx) (pins:List (Addr×Obj)) (σ : List (Option V)) (H:Hp) (s:Shared):Prop where
 ok:X.Ok
 os:s.os=X.s_0.os
 bare:AllBare s.gens
 base:Un X.fs X.ex X.H_0 H X.s_0.heap s.heap
 loc:∃m,s.heap.Ns X.env.locals m∧∀(i:Nat) (x:Str) (v:V),X.N[i]?=some x→σ[i]?=some (some v)→Vis X.env.scope x→∃u,RelV v u∧Look X.env s.heap m x u
 cell:∀x c,X.env.cells.lookup x=some c→∃v,s.heap.IsCell c v
 free:H X.env.locals=none
 freeC:∀x c,X.env.cells.lookup x=some c→H c=none
 pin:∀p∈X.pn++pins,s.heap.get? p.1=some p.2∧H p.1=none∧p.1≠X.env.locals∧p.1∉X.fs∧∀v,p.2.data≠.cell v
 hok:HOk X.prog X.w H s.heap
 len : σ.length=X.N.length
section
variable {X:Cx} {pins:List (Addr×Obj)} {σ : List (Option V)} {H H':Hp} {s:Shared} {h':Heap}
theorem Cx.Ok.nofr (ok:X.Ok) {b:Addr} {o:Obj} (e:X.base.get? b=some o):b∉X.fs:=fun hb=>by
 have:=(ok.funs.mem hb).1
 rw [e] at this;cases this
theorem Inv.bs (I:Inv X pins σ H s):∀b o,X.base.get? b=some o→s.heap.get? b=some o∧H b=none:=fun b o e =>
 ⟨I.base.keep b o (I.ok.bs b o e).1 (I.ok.bs b o e).2 (I.ok.nofr e) (I.ok.noex b o e),I.base.free b o (I.ok.bs b o e).1 (I.ok.bs b o e).2 (I.ok.noex b o e)⟩
theorem Inv.bk (I:Inv X pins σ H s):∀b o,X.base.get? b=some o→s.heap.get? b=some o:=fun b o e=>(I.bs b o e).1
theorem Inv.mod (I:Inv X pins σ H s):Mod X.K X.mg X.base:=I.ok.mod
theorem Inv.kIn (I:Inv X pins σ H s):X.K.In s.heap:=I.ok.mod.kin.keeps I.bk
theorem Inv.fr (I:Inv X pins σ H s):∃m,Fr X.base X.env.locals s.heap m :=
 let ⟨m,hn,_⟩:=I.loc
 ⟨m,hn,I.bk,Nat.le_trans I.ok.bsz I.ok.above⟩
theorem Inv.lt (I:Inv X pins σ H s):X.env.locals<s.heap.objs.size:=let ⟨_,hn,_⟩:=I.loc;hn.lt
theorem Inv.sz (I:Inv X pins σ H s):X.s_0.heap.objs.size≤s.heap.objs.size:=Nat.le_trans I.ok.above (Nat.le_of_lt I.lt)
theorem Inv.nofs (I:Inv X pins σ H s) {a:Addr} (h:s.heap.objs.size≤a):a∉X.fs:=fun hb=>by
 obtain⟨_,o,ho,_⟩:=I.ok.funs.mem hb;exact absurd (Nat.lt_of_lt_of_le (Heap.lt_size ho) (Nat.le_trans I.sz h)) (Nat.lt_irrefl _)
theorem Inv.cne (I:Inv X pins σ H s):∀x c,X.env.cells.lookup x=some c→c≠X.env.locals:=fun x c e z=>by
 obtain⟨v,o,ho,hd⟩:=I.cell x c e;obtain⟨m,⟨o',es,ep,ho',hd',_⟩,_⟩:=I.loc;rw [z,ho'] at ho;cases ho;rw [hd'] at hd;cases hd
theorem Inv.funs (I:Inv X pins σ H s):s.heap.FunFrames X.base X.outer:=by
 have all:∀(l:List Env),(∀b∈frs l,b∈X.fs)→X.s_0.heap.FunFrames X.base l→s.heap.FunFrames X.base l:=by
  intro l
  induction l with
  | nil=>intro _ _;trivial
  | cons env r ih =>
   intro hs hl;obtain⟨hk,⟨L,o,hf,hn,ho,hd⟩,hr⟩:=hl;have hL:L∈X.fs:=hs L (by unfold frs;rw [List.filterMap_cons,hf];exact List.mem_cons_self);obtain⟨sl,e⟩:=I.base.slot L o ho (I.ok.frf L hL) hL fun z=>I.ok.exfs L z hL;exact⟨hk,⟨L,_,hf,hn,e,hd⟩,ih (fun b hb=>hs b (by unfold frs;rw [List.filterMap_cons,hf];exact List.mem_cons_of_mem _ hb)) hr⟩
 exact all X.outer (fun _ hb=>hb) I.ok.funs
theorem Inv.stack (I:Inv X pins σ H s):s.heap.FunFrames X.base X.stack:=by
 rcases I.ok.stk with e | ⟨e,hf⟩
 ·rw [e];exact I.funs
 ·rw [e]
  obtain⟨m,hn,_⟩:=I.loc;refine .cons (by rw [I.ok.kind];decide) hf hn ?_ I.funs;exact Heap.get?_none_of_le (Nat.le_trans I.ok.bsz I.ok.above)
theorem Inv.stkSub (I:Inv X pins σ H s):∀b∈frs X.stack,b∈X.env.locals::X.fs:=fun b hb=>by
 rcases I.ok.stk with e | ⟨e,hf⟩
 ·rw [e] at hb;exact List.mem_cons_of_mem _ hb
 ·rw [e] at hb
  unfold frs at hb;rw [List.filterMap_cons,hf] at hb;exact hb
theorem Inv.stkFree (I:Inv X pins σ H s):∀b∈frs X.stack,H b=none:=fun b hb=>by
 rcases List.mem_cons.mp (I.stkSub b hb) with e | hb
 ·rw [e];exact I.free
 ·obtain⟨_,o,ho,_⟩:=I.ok.funs.mem hb
  exact I.base.free b o ho (I.ok.frf b hb) fun z=>I.ok.exfs b z hb
theorem Inv.step {g':Array GenState} {t':Nat} {d':Drawn} {ch:List Addr} (I:Inv X pins σ H s)
  (hch:∀b∈ch,(b∈X.ex∨X.s_0.heap.objs.size≤b)∧b≠X.env.locals∧(∀x c,X.env.cells.lookup x=some c→c≠b)∧∀p∈X.pn++pins,p.1≠b)
  (keep:∀b o,b≠X.env.locals→b∉X.fs→b∉ch→s.heap.get? b=some o→H b=none→h'.get? b=some o)
  (slot:∀b o,b≠X.env.locals→b∈X.fs→b∉ch→s.heap.get? b=some o→H b=none→∃sl,h'.get? b=some {o with slots:=sl}) (free:∀b o,b∉ch→s.heap.get? b=some o→H b=none→H' b=none)
  (there:∀b o,b∉ch→s.heap.get? b=some o→∃o',h'.get? b=some o')
  (tups:∀b xs,H b=some (.tup xs)→H' b=some (.tup xs)) (frzs:∀b o u,H b=some (.frz o u)→H' b=some (.frz o u)) (tbls:∀b ps,H b=some (.tbl ps)→∃more,H' b=some (.tbl (ps++more)))
  (ns:∀m,s.heap.Ns X.env.locals m→h'.Ns X.env.locals m) (hok:HOk X.prog X.w H' h') (hg:AllBare g') :
  Inv X pins σ H' {s with heap:=h',gens:=g',drawn:=d',toks:=t'}:=by
 have neL:∀b o,X.s_0.heap.get? b=some o→b≠X.env.locals:=fun b o e=>Nat.ne_of_lt (Nat.lt_of_lt_of_le (Heap.lt_size e) I.ok.above);have neC:∀b o,X.s_0.heap.get? b=some o→b∉X.ex→b∉ch:=fun b o e hx hb=>by
  rcases (hch b hb).1 with z | z
  ·exact hx z
  ·exact absurd (Nat.lt_of_lt_of_le (Heap.lt_size e) z) (Nat.lt_irrefl _)
 have cellK:∀x c,X.env.cells.lookup x=some c→∀v,s.heap.IsCell c v→h'.IsCell c v:=fun x c e v ⟨o,ho,hd⟩=>by
  have nch:c∉ch:=fun z=>(hch c z).2.2.1 x c e rfl
  by_cases hc:c∈X.fs
  ·obtain⟨sl,q⟩:=slot c o (I.cne x c e) hc nch ho (I.freeC x c e)
   exact⟨_,q,hd⟩
  ·exact⟨o,keep c o (I.cne x c e) hc nch ho (I.freeC x c e),hd⟩
 refine⟨I.ok,I.os,hg,⟨fun b o e n hb hx=>?_,fun b o e n hb hx=>?_,fun b o e n hx=>?_,fun b o e hx=>?_,fun b xs e=>tups b xs (I.base.tups b xs e),fun b o xs e=>frzs b o xs (I.base.frzs b o xs e),fun b ps e=>?_⟩,?_,fun x c e=>?_,?_,fun x c e=>?_,fun p hp=>?_,hok,I.len⟩
 ·exact keep b o (neL b o e) hb (neC b o e hx) (I.base.keep b o e n hb hx) (I.base.free b o e n hx)
 ·obtain⟨sl,e1⟩:=I.base.slot b o e n hb hx
  obtain⟨sl',e2⟩:=slot b _ (neL b o e) hb (neC b o e hx) e1 (I.base.free b o e n hx);exact⟨sl',e2⟩
 ·obtain⟨o',e1⟩:=I.base.there b o e hx
  exact free b o' (neC b o e hx) e1 (I.base.free b o e n hx)
 ·obtain⟨o',e1⟩:=I.base.there b o e hx
  exact there b o' (neC b o e hx) e1
 ·obtain⟨m1,e1⟩:=I.base.tbls b ps e
  obtain⟨m2,e2⟩:=tbls b _ e1;exact⟨m1++m2,by rw [e2,Array.append_assoc]⟩
 ·obtain⟨m,hn,hl⟩:=I.loc
  refine⟨m,ns m hn,fun i x v e1 e2 e3=>?_⟩;obtain⟨u,r,l⟩:=hl i x v e1 e2 e3;refine⟨u,r,?_⟩;rcases l with l | ⟨k,c,e,z⟩
  ·exact .inl l
  ·exact .inr ⟨k,c,e,cellK x c e _ z⟩
 ·obtain⟨v,z⟩:=I.cell x c e
  exact⟨v,cellK x c e v z⟩
 ·obtain⟨m,⟨o,_,_,ho,_⟩,_⟩:=I.loc
  exact free _ o (fun z=>(hch _ z).2.1 rfl) ho I.free
 ·obtain⟨v,o,ho,hd⟩:=I.cell x c e
  exact free c o (fun z=>(hch c z).2.2.1 x c e rfl) ho (I.freeC x c e)
 ·obtain⟨e,n,ne,nf,d⟩:=I.pin p hp
  have nch:p.1∉ch:=fun z=>(hch p.1 z).2.2.2 p hp rfl;exact⟨keep p.1 p.2 ne nf nch e n,free p.1 p.2 nch e n,ne,nf,d⟩
theorem Inv.un {t':Nat} (I:Inv X pins σ H s) (u:Un X.fs [] H H' s.heap h') (hok:HOk X.prog X.w H' h'):Inv X pins σ H' {s with heap:=h',toks:=t'}:=by
 obtain⟨m,⟨o,es,ep,ho,r⟩,_⟩:=id I.loc;obtain⟨sl,hL⟩:=u.any ho I.free (by simp)
 exact I.step (g':=s.gens) (d':=s.drawn) (ch:=[]) (fun _ z=>nomatch z) (fun b o _ hb _ e n=>u.keep b o e n hb (by simp)) (fun b o _ hb _ e n=>u.slot b o e n hb (by simp)) (fun b o _ e n=>u.free b o e n (by simp)) (fun b o _ e=>u.there b o e (by simp)) u.tups u.frzs u.tbls (fun m' hm=>by
  obtain⟨o',es',ep',ho',r'⟩:=hm;rw [ho] at ho';cases ho';exact⟨_,es',ep',hL,r'⟩) hok I.bare
theorem Inv.call {g':Array GenState} {t':Nat} {d':Drawn} {ch:List Addr} (I:Inv X pins σ H s) (u:Un (frs X.stack) ch H H' s.heap h') (hok:HOk X.prog X.w H' h') (hg:AllBare g')
  (hch:∀b∈ch,(b∈X.ex∨X.s_0.heap.objs.size≤b)∧b≠X.env.locals∧(∀x c,X.env.cells.lookup x=some c→c≠b)∧∀p∈X.pn++pins,p.1≠b) :
  Inv X pins σ H' {s with heap:=h',gens:=g',drawn:=d',toks:=t'}:=by
 obtain⟨m,⟨o,es,ep,ho,r⟩,_⟩:=id I.loc;obtain⟨sl,hL⟩:=u.any ho I.free fun z=>(hch _ z).2.1 rfl
 exact I.step (ch:=ch) hch (fun b o hL hb hc e n=>u.keep b o e n (fun z=>(List.mem_cons.mp (I.stkSub b z)).elim hL hb) hc) (fun b o _ _ hc e n=>u.any e n hc) (fun b o hc e n=>u.free b o e n hc) (fun b o hc e=>u.there b o e hc) u.tups u.frzs u.tbls (fun m' hm=>by
  obtain⟨o',es',ep',ho',r'⟩:=hm;rw [ho] at ho';cases ho';exact⟨_,es',ep',hL,r'⟩) hok hg
theorem Inv.turned {t':Nat} {it:Addr} (I:Inv X pins σ H s) (k:∀b o,b≠it→s.heap.get? b=some o→h'.get? b=some o) (hn:H it=none) (hL:it≠X.env.locals)
  (h1:it∈X.ex∨X.s_0.heap.objs.size≤it) (h2:∀x c,X.env.cells.lookup x=some c→c≠it) (h3:∀p∈X.pn++pins,p.1≠it):Inv X pins σ H {s with heap:=h',toks:=t'}:=by
 have nit:∀b u,H b=some u→b≠it:=fun b u e z=>by rw [z,hn] at e;cases e
 refine I.step (g':=s.gens) (d':=s.drawn) (ch:=[it]) (fun b hb=>?_) (fun b o _ _ hc e _=>k b o (fun z=>hc (by simp [z])) e) (fun b o _ _ hc e _=>⟨o.slots,k b o (fun z=>hc (by simp [z])) e⟩) (fun _ _ _ _ n=>n)
  (fun b o hc e=>⟨o,k b o (fun z=>hc (by simp [z])) e⟩) (fun _ _ e=>e) (fun _ _ _ e=>e) (fun b ps e=>⟨#[],by rw [e];simp⟩) (fun m hm=>?_) (fun b u e=>?_) I.bare
 ·have e:b=it:=by simpa using hb
  subst e;exact⟨h1,hL,h2,h3⟩
 ·obtain⟨o,es,ep,ho,r⟩:=hm
  exact⟨o,es,ep,k _ o (Ne.symm hL) ho,r⟩
 ·refine (I.hok b u e).stay (fun c v hc q=>k c v ?_ q) (fun _ q=>q) fun _ _ q=>q
  rcases hc with z | z
  ·rw [z];exact nit b u e
  ·exact nit c _ z
theorem Inv.tok (I:Inv X pins σ H s) (t:Nat):Inv X pins σ H {s with toks:=t}:=I.un (h':=s.heap) (t':=t) Un.refl I.hok
theorem Inv.kept {t':Nat} (I:Inv X pins σ H s) (k:∀b u,s.heap.get? b=some u→h'.get? b=some u):Inv X pins σ H {s with heap:=h',toks:=t'}:=I.un (Un.kept k) (I.hok.kept k)
theorem Inv.laid {a:Addr} {o:HO} {t':Nat} (I:Inv X pins σ H s) (k:∀b u,s.heap.get? b=some u→h'.get? b=some u) (hp:s.heap.objs.size≤a) (new:eY X.prog X.w (upd H a o) h' a o) :
  Inv X pins σ (upd H a o) {s with heap:=h',toks:=t'}:=I.un (Un.laid k hp (I.hok.fresh hp)) (I.hok.laid k hp new)
theorem Inv.write {x e:Addr} {o:HO} {t':Nat} (I:Inv X pins σ H s) (mu:Mut (H x)) (he:e=x∨H e=some (.own x)) (k:∀b u,b≠e→s.heap.get? b=some u→h'.get? b=some u) (heo:∃u,h'.get? e=some u)
  (new:eY X.prog X.w (upd H x o) h' x o):Inv X pins σ (upd H x o) {s with heap:=h',toks:=t'}:=I.un (Un.write mu he k heo) (I.hok.write mu he k heo new)
theorem Inv.weak {σ':List (Option V)} (I:Inv X pins σ H s) (hl : σ'.length = σ.length) (w:∀(i:Nat) v,σ'[i]?=some (some v)→σ[i]?=some (some v)):Inv X pins σ' H s :=
 ⟨I.ok,I.os,I.bare,I.base,let ⟨m,hn,hl'⟩:=I.loc;⟨m,hn,fun i x v e1 e2 e3=>hl' i x v e1 (w i v e2) e3⟩,I.cell,I.free,I.freeC,I.pin,I.hok,hl.trans I.len⟩
theorem Inv.pins_of {pins':List (Addr×Obj)} (I:Inv X pins σ H s) (h:∀p∈pins',s.heap.get? p.1=some p.2∧H p.1=none∧p.1≠X.env.locals∧p.1∉X.fs∧∀v,p.2.data≠.cell v):Inv X pins' σ H s :=
 ⟨I.ok,I.os,I.bare,I.base,I.loc,I.cell,I.free,I.freeC,fun p hp=>(List.mem_append.mp hp).elim (fun z=>I.pin p (List.mem_append_left _ z)) (h p),I.hok,I.len⟩
theorem cVz {N:List Str} (hN:N.Nodup) {i j:Nat} {x:Str} (a:N[i]?=some x) (b:N[j]?=some x):i=j:=by
 obtain⟨h1,e1⟩:=List.getElem?_eq_some_iff.mp a;obtain⟨h2,e2⟩:=List.getElem?_eq_some_iff.mp b;exact (List.getElem_inj hN).mp (e1.trans e2.symm)
theorem vQz {M:Model} {A:Around} {E:Value→Shared→Prop} {i:Nat} {x:Str} {v:V} {u:Value} {Q:Unit→Shared→Prop} (I:Inv X pins σ H s) (hN:X.N.Nodup) (hi:X.N[i]?=some x) (hx:Loc X.env.scope x) (r:RelV v u)
  (h:∀s',Inv X pins (σ.set i (some v)) H s'→(∃a,Heap.SameBut a s.heap s'.heap∧(a=X.env.locals∨X.env.cells.lookup x=some a))→Q () s') (hf:X.fn x=true∨X.env.scope.names.lookup x=some .local:=by first | exact .inl rfl | exact .inr rfl | assumption):wpAny M A (storeName X.env x u) Q E s:=by
 obtain⟨m,hn,hl⟩:=id I.loc;have hcls:(X.env.scope.kind == .class||(X.env.scope.kind == .module&&X.env.locals != X.env.globals))=false:=by rw [I.ok.kind];rfl
 have hiσ : i < σ.length:=by rw [I.len];exact (List.getElem?_eq_some_iff.mp hi).1
 have cne:=I.cne;have tracked:∀{a:Addr} {h':Heap},(∃o,s.heap.get? a=some o∧H a=none)→Heap.SameBut a s.heap h'→HOk X.prog X.w H h':=fun {a h'} ha hs b ob e=>by
  obtain⟨_,_,hfree⟩:=ha;refine (I.hok b ob e).stay (fun c w' hc q=>(hs.2 c ?_).trans q) (fun _ q=>q) fun _ _ q=>q;rintro rfl;rcases hc with rfl | hc
  ·rw [hfree] at e;cases e
  ·rw [hfree] at hc;cases hc
 rcases hx with hk | hk
 ·refine wpAny_storeName_local hk hn (fun h' hn' hs=>?_) hcls
  obtain⟨oL,_,_,hoL,_⟩:=id hn;refine h _ ⟨I.ok,I.os,I.bare,⟨fun b o e n hb hx=>?_,fun b o e n hb hx=>?_,I.base.free,fun b o e hx=>?_,I.base.tups,I.base.frzs,I.base.tbls⟩,⟨_,hn',fun j y v' e1 e2 e3=>?_⟩,fun y c e=>?_,I.free,I.freeC,fun p hp=>?_,tracked ⟨oL,hoL,I.free⟩ hs,by simpa using I.len⟩ ⟨_,hs,.inl rfl⟩
  ·exact (hs.2 b (Nat.ne_of_lt (Nat.lt_of_lt_of_le (Heap.lt_size e) I.ok.above))).trans (I.base.keep b o e n hb hx)
  ·obtain⟨sl,e1⟩:=I.base.slot b o e n hb hx
   exact⟨sl,(hs.2 b (Nat.ne_of_lt (Nat.lt_of_lt_of_le (Heap.lt_size e) I.ok.above))).trans e1⟩
  ·obtain⟨o',e1⟩:=I.base.there b o e hx
   exact⟨o',(hs.2 b (Nat.ne_of_lt (Nat.lt_of_lt_of_le (Heap.lt_size e) I.ok.above))).trans e1⟩
  ·by_cases hj:j=i
   ·subst hj
    rw [hi] at e1;cases e1;rw [List.getElem?_set_self hiσ] at e2;cases e2;exact⟨u,r,.inl ⟨hk,by simp⟩⟩
   ·rw [List.getElem?_set_ne (Ne.symm hj)] at e2
    obtain⟨u',r',q⟩:=hl j y v' e1 e2 e3;refine⟨u',r',?_⟩;rcases q with ⟨k,e⟩ | ⟨k,c,e,z⟩
    ·refine .inl ⟨k,?_⟩
     have:y≠x:=fun e=>hj (cVz hN e1 (e ▸ hi))
     simp [this,e]
    ·exact .inr ⟨k,c,e,z.sameBut hs (cne y c e)⟩
  ·obtain⟨w',z⟩:=I.cell y c e
   exact⟨w',z.sameBut hs (cne y c e)⟩
  ·obtain⟨e,n,ne,nf,d⟩:=I.pin p hp
   exact⟨(hs.2 p.1 ne).trans e,n,ne,nf,d⟩
 ·have hfn:X.fn x=true:=by
   rcases hf with z | z
   ·exact z
   ·rw [z] at hk;cases hk
  obtain⟨c,hc⟩:=I.ok.has x (.inl hk);obtain⟨w',z⟩:=I.cell x c hc;refine wpAny_storeName_cell I.ok.kind hk hc z (fun h' hc' hs=>?_);obtain⟨oc,hoc,hocd⟩:=id z;refine h {s with heap:=h'} ⟨I.ok,I.os,I.bare,⟨fun b o e n hb hx=>?_,fun b o e n hb hx=>?_,I.base.free,fun b o e hx=>?_,I.base.tups,I.base.frzs,I.base.tbls⟩,⟨m,hn.sameBut hs (Ne.symm (cne x c hc)),fun j y v' e1 e2 e3=>?_⟩,fun y c' e=>?_,I.free,I.freeC,fun p hp=>?_,tracked ⟨oc,hoc,I.freeC x c hc⟩ hs,by simpa using I.len⟩ ⟨c,hs,.inr hc⟩
  ·exact (hs.2 b (Nat.ne_of_lt (Nat.lt_of_lt_of_le (Heap.lt_size e) (I.ok.cab x c hfn hc)))).trans (I.base.keep b o e n hb hx)
  ·obtain⟨sl,e1⟩:=I.base.slot b o e n hb hx
   exact⟨sl,(hs.2 b (Nat.ne_of_lt (Nat.lt_of_lt_of_le (Heap.lt_size e) (I.ok.cab x c hfn hc)))).trans e1⟩
  ·obtain⟨o',e1⟩:=I.base.there b o e hx
   exact⟨o',(hs.2 b (Nat.ne_of_lt (Nat.lt_of_lt_of_le (Heap.lt_size e) (I.ok.cab x c hfn hc)))).trans e1⟩
  ·by_cases hj:j=i
   ·subst hj
    rw [hi] at e1;cases e1;rw [List.getElem?_set_self hiσ] at e2;cases e2;exact⟨u,r,.inr ⟨.inl hk,c,hc,hc'⟩⟩
   ·rw [List.getElem?_set_ne (Ne.symm hj)] at e2
    obtain⟨u',r',q⟩:=hl j y v' e1 e2 e3;refine⟨u',r',?_⟩;rcases q with q | ⟨k,c',e,z'⟩
    ·exact .inl q
    ·refine .inr ⟨k,c',e,z'.sameBut hs ?_⟩
     rintro rfl;exact hj (cVz hN e1 (I.ok.inj _ _ _ e hc ▸ hi))
  ·by_cases hcc:c'=c
   ·subst hcc;exact⟨_,hc'⟩
   ·obtain⟨w2,z2⟩:=I.cell y c' e
    exact⟨w2,z2.sameBut hs hcc⟩
  ·obtain⟨e,n,ne,nf,d⟩:=I.pin p hp
   refine⟨(hs.2 p.1 ?_).trans e,n,ne,nf,d⟩;intro q;rw [q,hoc] at e;have q':oc=p.2:=Option.some.inj e;exact d w' (by rw [← q'];exact hocd)
theorem jFz {M:Model} {A:Around} {E:Value→Shared→Prop} {i:Nat} {x:Str} {v:V} {u:Value} {Q:Unit→Shared→Prop} (I:Inv X pins σ H s) (hN:X.N.Nodup) (hi:X.N[i]?=some x) (hx:Loc X.env.scope x) (r:RelV v u)
  (h:∀s',Inv X pins (σ.set i (some v)) H s'→Q () s') (hf:X.fn x=true∨X.env.scope.names.lookup x=some .local:=by first | exact .inl rfl | exact .inr rfl | assumption):wpAny M A (storeName X.env x u) Q E s :=
 vQz I hN hi hx r (fun s' I' _=>h s' I') hf
theorem Inv.call' {s':Shared} {ch:List Addr} (I:Inv X pins σ H s) (ho:s'.os=s.os) (u:Un (frs X.stack) ch H H' s.heap s'.heap) (hok:HOk X.prog X.w H' s'.heap) (hg:AllBare s'.gens)
  (hch:∀b∈ch,(b∈X.ex∨X.s_0.heap.objs.size≤b)∧b≠X.env.locals∧(∀x c,X.env.cells.lookup x=some c→c≠b)∧∀p∈X.pn++pins,p.1≠b):Inv X pins σ H' s':=by
 obtain⟨h',g',d',t',o'⟩:=s';have e:o'=s.os:=ho;subst e;exact I.call (g':=g') (t':=t') (d':=d') u hok hg hch
end
abbrev XK:=Value→Option Addr→Hp→Prop
abbrev St:=List (Option V)
abbrev VK:=V→Hp→Prop
abbrev TE:=St→Hp→VK→Prop
abbrev TT:=St→Hp→(Bool→Hp→Prop)→Prop
abbrev TA:=St→Hp→(List V→Hp→Prop)→Prop
structure Ends where
 nx:St→Hp→Prop
 rt:VK
 bk:St→Hp→Prop:=fun _ _=>False
 ct:St→Hp→Prop:=fun _ _=>False
abbrev TS:=Ends→St→Hp→Prop
def EP (X:Cx) (pins:List (Addr×Obj)) (σ : St) (Q:VK) (u:Value) (s':Shared):Prop := ∃v H',Inv X pins σ H' s'∧RelV v u∧Q v H'
def TP (X:Cx) (pins:List (Addr×Obj)) (σ : St) (Q:Bool→Hp→Prop) (b:Bool) (s':Shared):Prop := ∃H',Inv X pins σ H' s'∧Q b H'
def AP (X:Cx) (pins:List (Addr×Obj)) (σ : St) (Q:List V→Hp→Prop) (us:List Value) (s':Shared):Prop := ∃vs H',Inv X pins σ H' s'∧Vals vs us∧Q vs H'
def SP (X:Cx) (pins:List (Addr×Obj)) (D:Ends) (f:Flow) (s':Shared):Prop :=
 match f with
 | .next=>∃σ' H',Inv X pins σ' H' s'∧D.nx σ' H'
 | .brk=>∃σ' H',Inv X pins σ' H' s'∧D.bk σ' H'
 | .cont=>∃σ' H',Inv X pins σ' H' s'∧D.ct σ' H'
 | .ret u=>∃v σ' H',Inv X pins σ' H' s'∧RelV v u∧D.rt v H'
def PE (X:Cx) (e:Expr) (t:TE):Prop :=
 ∀(pins:List (Addr×Obj)) (s:Shared) (σ : St) (H:Hp) (Q:VK),Inv X pins σ H s→t σ H Q→wpAny (model X.prog X.w) X.A (eval e X.env) (EP X pins σ Q) X.xe s
def PT (X:Cx) (e:Expr) (t:TT):Prop :=
 ∀(pins:List (Addr×Obj)) (s:Shared) (σ : St) (H:Hp) (Q:Bool→Hp→Prop),Inv X pins σ H s→t σ H Q→wpAny (model X.prog X.w) X.A (isTrue e X.env (eval e X.env)) (TP X pins σ Q) X.xe s
def PW (X:Cx) (e:Expr) (t:TT):Prop :=
 ∀(whole:Sem Value) (pins:List (Addr×Obj)) (s:Shared) (σ : St) (H:Hp) (Q:Bool→Hp→Prop),Inv X pins σ H s→t σ H Q→wpAny (model X.prog X.w) X.A (isTrue e X.env whole) (TP X pins σ Q) X.xe s
theorem PW.pt {X:Cx} {e:Expr} {t:TT} (h:PW X e t):PT X e t:=h _
def PA (X:Cx) (es:List Expr) (t:TA):Prop :=
 ∀(pos:Pos) (pins:List (Addr×Obj)) (s:Shared) (σ : St) (H:Hp) (Q:List V→Hp→Prop),Inv X pins σ H s→t σ H Q→wpAny (model X.prog X.w) X.A (spliced (backTo pos (starEach es X.env))) (AP X pins σ Q) X.xe s
def PS (X:Cx) (st:Stmt) (t:TS):Prop :=
 ∀(pins:List (Addr×Obj)) (s:Shared) (σ : St) (H:Hp) (D:Ends),Inv X pins σ H s→t D σ H→wpAny (model X.prog X.w) X.A (exec st X.env) (SP X pins D) X.xe s
def PSs (X:Cx) (st:List Stmt) (t:TS):Prop :=
 ∀(pins:List (Addr×Obj)) (s:Shared) (σ : St) (H:Hp) (D:Ends),Inv X pins σ H s→t D σ H→wpAny (model X.prog X.w) X.A (execs st X.env) (SP X pins D) X.xe s
theorem thn {α : Type} {t:Sem α} {Q Q' : α→Shared→Prop} {M:Model} {A:Around} {E:Value→Shared→Prop} {s:Shared} (h:wpAny M A t Q E s) (hQ:∀a s,Q a s→Q' a s):wpAny M A t Q' E s:=wpAny_mono h hQ fun _ _ x=>x
end L2
namespace L2
open PySem PySem.Spec PyProof.Rows
section
variable {X:Cx}
theorem bin {a b:Expr} {ta tb:TE} (ha:PE X a ta) (hb:PE X b tb) {pins:List (Addr×Obj)} {s:Shared} {σ : St} {H:Hp} {R:V→V→Hp→Prop} (I:Inv X pins σ H s) (h:ta σ H fun x H1=>tb σ H1 fun y H2=>R x y H2)
  {α : Type} {Q : α→Shared→Prop} {f:Value→Value→Sem α}
  (hf:∀v u s2 x y H2,Inv X pins σ H2 s2→RelV x v→RelV y u→R x y H2→wpAny (model X.prog X.w) X.A (f v u) Q X.xe s2) :
  wpAny (model X.prog X.w) X.A (eval a X.env) (fun v s₁ => wpAny (model X.prog X.w) X.A (eval b X.env) (fun u s₂ => wpAny (model X.prog X.w) X.A (f v u) Q X.xe s₂) X.xe s₁) X.xe s:=by
 refine thn (ha pins s σ H _ I h) fun v s1 ⟨x,H1,I1,r1,q1⟩=>?_;refine thn (hb pins s1 σ H1 _ I1 q1) fun u s2 ⟨y,H2,I2,r2,q2⟩=>?_;exact hf v u s2 x y H2 I2 r1 r2 q2
inductive IVar (o:Option (Option V)) (H:Hp) (Q:VK):Prop
 | mk (v:V) (_:o=some (some v)) (_:Q v H):IVar o H Q
def tVar (i:Nat):TE:=fun σ H Q=>IVar σ[i]? H Q
def tC (v:V):TE:=fun _ H Q=>Q v H
theorem pe_var {i:Nat} {x:Str} {pos:Pos} (hN:X.N[i]?=some x) (hv:Vis X.env.scope x) (hd:(x == ("__debug__" : Str))=false:=by decide) (hcd:(x == ("__classdict__" : Str))=false:=by decide):PE X (.Name x pos) (tVar i):=by
 intro pins s σ H Q I h;obtain⟨v,e,h⟩:=h;obtain⟨m,hn,hl⟩:=I.loc;obtain⟨u,r,l⟩:=hl i x v hN e hv;have fin:EP X pins σ Q u s:=⟨v,H,I,r,h⟩;rcases l with ⟨hk,hm⟩ | ⟨hk,c,hc,hcell⟩
 ·exact wpAny_Name (wpAny_loadName_local I.ok.kind hk hn hm fin) hd
 ·rcases hk with hk | hk
  ·exact wpAny_Name (wpAny_loadName_cell I.ok.kind hk hc hcell fin) hd
  ·exact wpAny_Name (wpAny_loadName_free I.ok.kind hk hc hcell fin hcd) hd
theorem aT {i j pos}:PE X (.Constant (.int i) j pos) (tC (.int i)):=fun _ _ _ H _ I h=>wpAny_Constant_int ⟨.int i,H,I.tok _,⟨_,rfl⟩,h⟩
theorem pe_bl {b j pos}:PE X (.Constant (.bool b) j pos) (tC (.bl b)):=fun _ _ _ H _ I h=>Constant_bool ⟨.bl b,H,I,rfl,h⟩
theorem AOz {j pos}:PE X (.Constant .none j pos) (tC .non):=fun _ _ _ H _ I h=>Constant_none ⟨.non,H,I,rfl,h⟩
theorem bB {x j pos}:PE X (.Constant (.str x) j pos) (tC (.str x)):=fun _ _ _ H _ I h=>Calls.Constant_str ⟨.str x,H,I.tok _,⟨_,rfl⟩,h⟩
def Gl (X:Cx) (x:Str):Prop:=X.env.kindOf x=some .globalImplicit
theorem qA {E:Value→Shared→Prop} {pins:List (Addr×Obj)} {s:Shared} {σ : St} {H:Hp} {x:Str} {u:Value} {pos:Pos} {Q:Value→Shared→Prop} (I:Inv X pins σ H s) (hg:Gl X x) (hm:X.mg x=some u) (h:Q u s)
  (hd:(x == ("__debug__" : Str))=false:=by decide):wpAny (model X.prog X.w) X.A (eval (.Name x pos) X.env) Q E s :=
 Calls.Name_function_global I.ok.kind hg (Calls.loadGlobal_global (by rw [I.ok.glob];exact I.mod.glob.keeps I.bk) hm h) hd
theorem iIz {E:Value→Shared→Prop} {pins:List (Addr×Obj)} {s:Shared} {σ : St} {H:Hp} {x:Str} {u:Value} {pos:Pos} {Q:Value→Shared→Prop} (I:Inv X pins σ H s) (hg:Gl X x) (hm:X.mg x=none) (hv:bootBuiltins x=some u) (h:Q u s)
  (hn:x≠"__name__" := by decide) (hd:(x == ("__debug__" : Str))=false:=by decide):wpAny (model X.prog X.w) X.A (eval (.Name x pos) X.env) Q E s:=by
 obtain⟨mb,h1,h2⟩:=I.mod.blt;exact Calls.Name_function_global I.ok.kind hg (Calls.loadGlobal_builtin (by rw [I.ok.glob];exact I.mod.glob.keeps I.bk) hm (by rw [I.ok.blt];exact h1.keeps I.bk) ((h2 x hn).trans hv) h) hd
theorem pBz {x:Str} {v:V} {u:Value} {pos:Pos} (hg:Gl X x) (hm:X.mg x=some u) (r:RelV v u) (hd:(x == ("__debug__" : Str))=false:=by decide):PE X (.Name x pos) (tC v) :=
 fun _ _ _ H _ I h=>qA I hg hm ⟨v,H,I,r,h⟩ hd
variable {a b:Expr} {ta tb:TE} {pos:Pos}
def PC (X:Cx) (op:CmpOp) (a b:Expr) (t:TE):Prop :=
 ∀(pins:List (Addr×Obj)) (s:Shared) (σ : St) (H:Hp) (Q:VK),Inv X pins σ H s→t σ H Q→
  wpAny (model X.prog X.w) X.A (eval a X.env) (fun v s₁ => wpAny (model X.prog X.w) X.A (eval b X.env) (fun u s₂ => wpAny (model X.prog X.w) X.A (compareOp op v u) (EP X pins σ Q) X.xe s₂) X.xe s₁) X.xe s
inductive IB (Q:Bool→Hp→Prop) (x:V) (H:Hp):Prop
 | mk (c:Bool) (_:x = .bl c) (_:Q c H):IB Q x H
def tB (t:TE):TT:=fun σ H Q=>t σ H fun x H1=>IB Q x H1
theorem AJz {op:CmpOp} {t:TE} (h:PC X op a b t) (h1:behindInMarks op b=false:=by first | exact nobehind _ (by decide) (by decide) | rfl):PT X (.Compare a [op] [b] pos) (tB t):=by
 intro pins s σ H Q I hw;refine wpAny_isTrue_Compare1 (thn (h pins s σ H _ I hw) fun v s1 h1=>thn h1 fun u s2 h2=>thn h2 fun c s3 ⟨x,H1,I1,r1,q1⟩=>?_) h1;obtain⟨d,rfl,q⟩:=q1;cases r1;exact wpAny_truthy_bool ⟨H1,I1,q⟩
theorem eO {e:Expr} {t:TE} (h:PE X e t) (he:∀whole,isTrue e X.env whole=(do let v ← whole;standAt e.pos;holding [v] (truthy v)):=by intro _;rfl):PT X e (tB t):=by
 intro pins s σ H Q I hw;refine isTrue_plain (thn (h pins s σ H _ I hw) fun v s1 ⟨x,H1,I1,r1,q1⟩=>?_) (he _);obtain⟨d,rfl,q⟩:=q1;cases r1;exact wpAny_truthy_bool ⟨H1,I1,q⟩
variable {tA tB':TT} {rest:List Expr}
def tAnd (t u:TT):TT:=fun σ H Q=>t σ H fun c H1=>if c=true then u σ H1 Q else Q false H1
def tOr (t u:TT):TT:=fun σ H Q=>t σ H fun c H1=>if c=true then Q true H1 else u σ H1 Q
def tNot (t:TT):TT:=fun σ H Q=>t σ H fun c H1=>Q (!c) H1
theorem jPz (ha:PT X a tA):PW X (.BoolOp .And [a] pos) tA:=by
 intro wh pins s σ H Q I h;refine isTrue_and (thn (ha pins s σ H Q I h) fun c s1 e=>?_);cases c with
 | true=>exact isTrue_and_nil e
 | false=>exact e
theorem v9z (ha:PT X a tA):PW X (.BoolOp .Or [a] pos) tA:=by
 intro wh pins s σ H Q I h;refine isTrue_or (thn (ha pins s σ H Q I h) fun c s1 e=>?_);cases c with
 | false=>exact isTrue_or_nil e
 | true=>exact e
theorem rUz (ha:PT X a tA) (hb:PW X (.BoolOp .And (b::rest) pos) tB'):PW X (.BoolOp .And (a::b::rest) pos) (tAnd tA tB'):=by
 intro wh pins s σ H Q I h;refine isTrue_and (thn (ha pins s σ H _ I h) fun c s1 ⟨H1,I1,q1⟩=>?_);cases c with
 | true=>exact hb wh pins s1 σ H1 Q I1 q1
 | false=>exact⟨H1,I1,q1⟩
theorem BMz (ha:PT X a tA) (hb:PW X (.BoolOp .Or (b::rest) pos) tB'):PW X (.BoolOp .Or (a::b::rest) pos) (tOr tA tB'):=by
 intro wh pins s σ H Q I h;refine isTrue_or (thn (ha pins s σ H _ I h) fun c s1 ⟨H1,I1,q1⟩=>?_);cases c with
 | true=>exact⟨H1,I1,q1⟩
 | false=>exact hb wh pins s1 σ H1 Q I1 q1
theorem rWz (ha:PT X a tA):PT X (.UnaryOp .Not a pos) (tNot tA):=by
 intro pins s σ H Q I h;exact isTrue_not (ha pins s σ H (fun c H1=>Q (!c) H1) I h)
def tAndV (ta tb:TE):TE:=fun σ H Q=>ta σ H fun x H1=>∃c,x = .bl c∧if c=true then tb σ H1 Q else Q (.bl false) H1
def tOrV (ta tb:TE):TE:=fun σ H Q=>ta σ H fun x H1=>∃c,x = .bl c∧if c=true then Q (.bl true) H1 else tb σ H1 Q
def tNotV (ta:TE):TE:=fun σ H Q=>ta σ H fun x H1=>∃c,x = .bl c∧Q (.bl (!c)) H1
theorem pe_one {op} {t:TE} (h:PE X a t):PE X (.BoolOp op [a] pos) t:=fun pins s σ H Q I hw=>BoolOp_one (h pins s σ H Q I hw)
theorem pe_or (ha:PE X a ta) (hb:PE X (.BoolOp .Or (b::rest) pos) tb):PE X (.BoolOp .Or (a::b::rest) pos) (tOrV ta tb):=by
 intro pins s σ H Q I h;refine BoolOp_or (thn (ha pins s σ H _ I h) fun v s1 ⟨x,H1,I1,r1,q1⟩=>?_);obtain⟨c,rfl,q1⟩:=q1;cases r1;refine wpAny_truthy_bool ?_;cases c with
 | false=>exact hb pins s1 σ H1 Q I1 q1
 | true=>exact⟨.bl true,H1,I1,rfl,q1⟩
def tIf (t:TT) (ta tb:TE):TE:=fun σ H Q=>t σ H fun c H1=>if c=true then ta σ H1 Q else tb σ H1 Q
theorem gU {c:Expr} (hc:PT X c tA) (ha:PE X a ta) (hb:PE X b tb):PE X (.IfExp c a b pos) (tIf tA ta tb):=by
 intro pins s σ H Q I h;refine wpAny_IfExp (thn (hc pins s σ H _ I h) fun d s1 ⟨H1,I1,q1⟩=>?_);cases d with
 | true=>exact ha pins s1 σ H1 Q I1 q1
 | false=>exact hb pins s1 σ H1 Q I1 q1
end
end L2
namespace L2
open PySem PySem.Spec PyProof.Rows
def SqL (K:W.Frag) (H:Hp) (a:Addr) (xs:List V):Prop :=
 Rd H a (.lst xs)∨
  ∃(o:Obj) (its:Array Value) (n:Nat),K.lookup a=some o∧o.cls = .type "list"∧o.dict=none∧o.data = .seq its n∧its.size≤sizeLine∧Vals xs its.toList
def SqT (K:W.Frag) (H:Hp) (a:Addr) (xs:List V):Prop :=
 Rd H a (.tup xs)∨
  ∃(o:Obj) (its:Array Value) (n:Nat),K.lookup a=some o∧o.cls = .type "tuple"∧o.data = .seq its n∧its.size≤sizeLine∧Vals xs its.toList
def absV:Value→Option V
 | .none=>some .non
 | .bool b=>some (.bl b)
 | .int i _=>some (.int i)
 | .str x _=>some (.str x)
 | .bytes b _=>some (.byt b)
 | .float b _=>some (.flt b)
 | .ref a=>some (.ref a)
 | .type n=>some (.ty n)
 | _=>none
theorem RelV.abs {x:V} {u:Value} (r:RelV x u):absV u=some x:=by
 cases x with
 | non=>cases r;rfl
 | bl _=>cases r;rfl
 | int _=>obtain⟨t,rfl⟩:=r;rfl
 | str _=>obtain⟨t,rfl⟩:=r;rfl
 | byt _=>obtain⟨t,rfl⟩:=r;rfl
 | flt _=>obtain⟨t,rfl⟩:=r;rfl
 | ref _=>cases r;rfl
 | ty _=>cases r;rfl
theorem RelV.inj {x y:V} {u:Value} (r:RelV x u) (q:RelV y u):x=y:=Option.some.inj (r.abs.symm.trans q.abs)
theorem Vals.inj:∀{xs ys:List V} {us:List Value},Vals xs us→Vals ys us→xs=ys
 | _,_,_,.nil,.nil=>rfl
 | _,_,_,.cons r t,.cons r' t'=>by rw [r.inj r',Vals.inj t t']
section
variable {X:Cx} {pins:List (Addr×Obj)} {σ : St} {H:Hp} {s:Shared} {a:Addr} {xs ys:List V}
theorem SqL.of {K:W.Frag} (h:H a=some (.lst xs)):SqL K H a xs := .inl (.inl h)
theorem SqT.of {K:W.Frag} (h:H a=some (.tup xs)):SqT K H a xs := .inl (.inl h)
theorem Inv.list (I:Inv X pins σ H s) (h:SqL X.K H a xs):∃its:List Value,Vals xs its∧PlainL s.heap a its.toArray∧xs.length≤sizeLine:=by
 rcases h with h | ⟨o,its,n,hk,hc,hd,hs,hz,r⟩
 ·obtain⟨z,its,n,r,e⟩:=h.ok I.hok
  exact⟨its,r,⟨_,n,e,rfl,rfl,rfl⟩,z⟩
 ·refine⟨its.toList,r,⟨o,n,I.kIn a o hk,hc,hd,by simpa using hs⟩,?_⟩
  have e:=r.length;simp only [Array.length_toList] at e;omega
theorem Inv.tuple (I:Inv X pins σ H s) (h:SqT X.K H a xs):∃its:List Value,Vals xs its∧IsTup s.heap a its.toArray∧xs.length≤sizeLine:=by
 rcases h with h | ⟨o,its,n,hk,hc,hs,hz,r⟩
 ·obtain⟨z,its,r,p⟩:=h.ok I.hok
  exact⟨its,r,p,z⟩
 ·refine⟨its.toList,r,⟨o,I.kIn a o hk,hc,n,by simpa using hs⟩,?_⟩
  have e:=r.length;simp only [Array.length_toList] at e;omega
theorem Inv.list_inj (I:Inv X pins σ H s) (h:SqL X.K H a xs) (h':SqL X.K H a ys):xs=ys:=by
 obtain⟨its,r,⟨o,n,e,_,_,d⟩,_⟩:=I.list h;obtain⟨its',r',⟨o',n',e',_,_,d'⟩,_⟩:=I.list h';rw [e] at e';cases e';rw [d] at d';injection d' with d1 _
 have:its=its':=by simpa using congrArg Array.toList d1
 subst this;exact r.inj r'
end
abbrev Cx.wish (X:Cx) (E:Value→Shared→Prop):Cx:={X with xe:=E}
theorem Cx.Ok.wish {X:Cx} (ok:X.Ok) (E:Value→Shared→Prop):(X.wish E).Ok :=
 ⟨ok.mod,ok.kind,ok.glob,ok.blt,ok.above,ok.inj,ok.has,ok.cab,ok.hd,ok.frames,ok.stk,ok.exf,ok.bs,ok.bsz,ok.noex,ok.exfs,ok.funs,ok.frf⟩
theorem Cx.Ok.unwish {X:Cx} {E:Value→Shared→Prop} (ok:(X.wish E).Ok):X.Ok :=
 ⟨ok.mod,ok.kind,ok.glob,ok.blt,ok.above,ok.inj,ok.has,ok.cab,ok.hd,ok.frames,ok.stk,ok.exf,ok.bs,ok.bsz,ok.noex,ok.exfs,ok.funs,ok.frf⟩
section
variable {X:Cx} {pins:List (Addr×Obj)} {σ : St} {H:Hp} {s:Shared} {E:Value→Shared→Prop}
theorem Inv.wish (I:Inv X pins σ H s) (E:Value→Shared→Prop):Inv (X.wish E) pins σ H s:=⟨I.ok.wish E,I.os,I.bare,I.base,I.loc,I.cell,I.free,I.freeC,I.pin,I.hok,I.len⟩
theorem Inv.unwish (I:Inv (X.wish E) pins σ H s):Inv X pins σ H s:=⟨I.ok.unwish,I.os,I.bare,I.base,I.loc,I.cell,I.free,I.freeC,I.pin,I.hok,I.len⟩
end
section
variable {X:Cx} {st:Stmt} {rest:List Stmt} {t u:TS} {e:Expr} {te:TE} {pos:Pos}
def tNext:TS:=fun D σ H=>D.nx σ H
def tSeq (t u:TS):TS:=fun D σ H=>t {D with nx:=u D} σ H
theorem bA:PSs X [] tNext:=fun _ _ σ H _ I h=>wpAny_execs_nil ⟨σ,H,I,h⟩
theorem aB (h1:PS X st t) (h2:PSs X rest u):PSs X (st::rest) (tSeq t u):=by
 intro pins s σ H D I h;refine wpAny_execs_cons (thn (h1 pins s σ H {D with nx:=u D} I h) fun f s1 q=>?_);cases f with
 | next =>
  obtain⟨σ',H',I',q⟩:=q;exact h2 pins s1 σ' H' D I' q
 | ret v=>exact q
 | brk=>exact q
 | cont=>exact q
theorem aE (h1:PS X st t):PSs X [st] t:=by
 intro pins s σ H D I h;refine wpAny_execs_cons (thn (h1 pins s σ H D I h) fun f s1 q=>?_);cases f with
 | next=>exact wpAny_execs_nil q
 | ret v=>exact q
 | brk=>exact q
 | cont=>exact q
theorem Inv.quiet {pins:List (Addr×Obj)} {σ : St} {H:Hp} {s:Shared} (I:Inv X pins σ H s):interactive X.env=false:=by simp [interactive,I.ok.kind]
def tDrop (te:TE):TS:=fun D σ H=>te σ H fun _ H1=>D.nx σ H1
theorem aU (he:PE X e te) (hs:swapsWith e none pos.line X.env=pure false:=by rfl):PS X (.Expr e pos) (tDrop te):=by
 intro pins s σ H D I h;exact wpAny_Expr_any (thn (he pins s σ H _ I h) fun v s1 ⟨x,H1,I1,r1,q1⟩=>⟨σ,H1,I1,q1⟩) I.quiet hs
def tRet (te:TE):TS:=fun D σ H=>te σ H D.rt
theorem aR (he:PE X e te):PS X (.Return (some e) pos) (tRet te):=by
 intro pins s σ H D I h;exact wpAny_Return_some (thn (he pins s σ H _ I h) fun v s1 ⟨x,H1,I1,r1,q1⟩=>⟨x,σ,H1,I1,r1,q1⟩)
def tRetN:TS:=fun D _ H=>D.rt .non H
theorem BOz:PS X (.Return none pos) tRetN:=fun _ _ σ H _ I h=>wpAny_Return_none ⟨.non,σ,H,I,rfl,h⟩
def tIfS (c:TT) (t u:TS):TS:=fun D σ H=>c σ H fun b H1=>if b=true then t D σ H1 else u D σ H1
theorem dE {c:Expr} {a b:List Stmt} {tc:TT} (hc:PT X c tc) (ha:PSs X a t) (hb:PSs X b u):PS X (.If c a b pos) (tIfS tc t u):=by
 intro pins s σ H D I h;refine wpAny_If (thn (hc pins s σ H _ I h) fun d s1 ⟨H1,I1,q1⟩=>?_);cases d with
 | true=>exact ha pins s1 σ H1 D I1 q1
 | false=>exact hb pins s1 σ H1 D I1 q1
end
abbrev TG:=V→St→Hp→(St→Hp→Prop)→Prop
abbrev TGs:=List V→St→Hp→(St→Hp→Prop)→Prop
def PG (X:Cx) (target:Expr) (t:TG):Prop :=
 ∀(pins:List (Addr×Obj)) (s:Shared) (σ : St) (H:Hp) (v:V) (u:Value) (Q:St→Hp→Prop),Inv X pins σ H s→RelV v u→t v σ H Q→
  wpAny (model X.prog X.w) X.A (assign target X.env u) (fun _ s'=>∃σ' H',Inv X pins σ' H' s'∧Q σ' H') X.xe s
def PGs (X:Cx) (ts:List Expr) (t:TGs):Prop :=
 ∀(pins:List (Addr×Obj)) (s:Shared) (σ : St) (H:Hp) (vs:List V) (us:List Value) (Q:St→Hp→Prop),Inv X pins σ H s→Vals vs us→t vs σ H Q→
  wpAny (model X.prog X.w) X.A (assignInOrder ((assignEach ts X.env).map (·.2)) us) (fun _ s'=>∃σ' H',Inv X pins σ' H' s'∧Q σ' H') X.xe s
section
variable {X:Cx} {pos:Pos}
def gName (i:Nat):TG:=fun v σ H Q=>Q (σ.set i (some v)) H
theorem cZ {i:Nat} {x:Str} (hN:X.N.Nodup) (hi:X.N[i]?=some x) (hx:Loc X.env.scope x) (hf:X.fn x=true∨X.env.scope.names.lookup x=some .local:=by first | exact .inl rfl | exact .inr rfl | assumption):PG X (.Name x pos) (gName i):=by
 intro pins s σ H v u Q I r h;exact wpAny_assign_Name (jFz I hN hi hx r (fun s' I'=>⟨_,H,I',h⟩) hf)
def gNil:TGs:=fun vs σ H Q=>vs=[]∧Q σ H
def gCons (t:TG) (u:TGs):TGs:=fun vs σ H Q=>∃v r,vs=v::r∧t v σ H fun σ' H'=>u r σ' H' Q
theorem wIz:PGs X [] gNil:=by
 intro pins s σ H vs us Q I r h;obtain⟨e,h⟩:=h;subst e;cases r;exact assignInOrder_nil ⟨σ,H,I,h⟩
theorem cUz {e:Expr} {es:List Expr} {t:TG} {u:TGs} (h1:PG X e t) (h2:PGs X es u)
  (hs:(assignEach (e::es) X.env).map (·.2)=assign e X.env::(assignEach es X.env).map (·.2):=by rfl):PGs X (e::es) (gCons t u):=by
 intro pins s σ H vs us Q I r h;obtain⟨v,vr,e1,h⟩:=h;subst e1;cases r with
 | cons r rr =>
  rw [hs];refine assignInOrder_cons (thn (h1 pins s σ H _ _ _ I r h) fun _ s1 ⟨σ1,H1,I1,q1⟩=>?_);exact h2 pins s1 σ1 H1 _ _ Q I1 rr q1
def gTup (K:W.Frag) (n:Nat) (t:TGs):TG:=fun v σ H Q=>∃a xs,v = .ref a∧SqT K H a xs∧xs.length=n∧t xs σ H Q
theorem AMz {es:List Expr} {k:Nat} {t:TGs} {n:Nat} (hc:X.calm=true) (h:PGs X es t)
  (hn:(assignEach es X.env).length=n:=by rfl) (hst:(assignEach es X.env).findIdx? (·.1)=none:=by rfl):PG X (.Tuple es k pos) (gTup X.K n t):=by
 intro pins s σ H v u Q I r hw;obtain⟨a,xs,e1,hq,hl,hw⟩:=hw;subst e1;cases r;obtain⟨its,rv,ht,hz⟩:=I.tuple hq;refine assign_Tuple_tuple (I.ok.hd hc) ht (by simp [hn,← hl,rv.length]) hst fun h' hx=>?_;have I1:Inv X pins σ H {s with heap:=h'}:=I.kept (t':=s.toks) fun b o e=>hx b o (Nat.ne_of_lt (Heap.lt_size e)) e;exact h pins _ σ H xs _ Q I1 (by simpa using rv) hw
def tAsg (te:TE) (g:TG):TS:=fun D σ H=>te σ H fun x H1=>g x σ H1 D.nx
theorem aP {i:Nat} {x:Str} {e:Expr} {te:TE} {pos':Pos} (hN:X.N.Nodup) (hi:X.N[i]?=some x) (hx:Loc X.env.scope x) (he:PE X e te) (hs:swapsWith e (some (.Name x pos')) pos.line X.env=pure false:=by rfl) (hf:X.fn x=true∨X.env.scope.names.lookup x=some .local:=by first | exact .inl rfl | exact .inr rfl | assumption) :
  PS X (.Assign [.Name x pos'] e pos) (tAsg te (gName i)):=by
 intro pins s σ H D I h;refine wpAny_Assign_Name (thn (he pins s σ H _ I h) fun v s1 ⟨y,H1,I1,r1,q1⟩=>?_) hs;exact jFz I1 hN hi hx r1 (fun s2 I2=>⟨_,H1,I2,q1⟩) hf
end
section
variable {X:Cx} {pos:Pos}
def tWhile (c:TT) (tb:TS):TS:=fun D σ H=>∃W:Nat→St→Hp→Prop,(∃m,W m σ H)∧∀m σ H,W m σ H→
 c σ H fun b H1=>if b=true then ∃N:St→Hp→Prop,(∀σ' H',N σ' H'→∃m',m'<m∧W m' σ' H')∧tb {D with nx:=N,ct:=N,bk:=D.nx} σ H1 else D.nx σ H1
theorem mU {c:Expr} {body:List Stmt} {tc:TT} {tb:TS} (hp:PassesOwn (model X.prog X.w) X.A X.env X.xe) (hc:PT X c tc) (hb:PSs X body tb):PS X (.While c body [] pos) (tWhile tc tb):=by
 intro pins s σ H D I h;obtain⟨W,⟨m0,w0⟩,turn⟩:=h;refine wpAny_While (codeAny_whileLoop (fun n s'=>∃σ' H',Inv X pins σ' H' s'∧W n σ' H') ?_ m0 ⟨σ,H,I,w0⟩);rintro n s1 ⟨σ1,H1,I1,w1⟩;refine wpAny_passesOwn hp (thn (hc pins s1 σ1 H1 _ I1 (turn n σ1 H1 w1)) fun b s2 ⟨H2,I2,q2⟩=>?_);cases b with
 | true =>
  obtain⟨N,hN,q2⟩:=q2;rw [if_pos rfl];refine wpAny_passesOwn hp (thn (hb pins s2 σ1 H2 _ I2 q2) fun f s3 q3=>?_);cases f with
  | next =>
   obtain⟨σ3,H3,I3,n3⟩:=q3;obtain⟨m',hm,w3⟩:=hN σ3 H3 n3;exact⟨m',hm,σ3,H3,I3,w3⟩
  | cont =>
   obtain⟨σ3,H3,I3,n3⟩:=q3;obtain⟨m',hm,w3⟩:=hN σ3 H3 n3;exact⟨m',hm,σ3,H3,I3,w3⟩
  | brk=>exact q3
  | ret v=>exact q3
 | false =>
  rw [if_neg Bool.false_ne_true];exact wpAny_execs_nil ⟨σ1,H2,I2,q2⟩
end
structure It where
 go:Nat→Hp→Prop
 yld:Nat→Hp→V→Hp→Prop
 stop:Nat→Hp→Prop
def FpOk (X:Cx) (pins:List (Addr×Obj)) (H:Hp) (b:Addr):Prop :=
 H b=none∧b≠X.env.locals∧b∉X.fs∧(b∈X.ex∨X.s_0.heap.objs.size≤b)∧(∀x c,X.env.cells.lookup x=some c→c≠b)∧∀p∈X.pn++pins,p.1≠b
theorem Inv.fpOk {X:Cx} {pins:List (Addr×Obj)} {σ : St} {H H':Hp} {s:Shared} {b:Addr} (I:Inv X pins σ H s) (hb:s.heap.objs.size≤b) (hn:H' b=none):FpOk X pins H' b:=by
 refine⟨hn,Nat.ne_of_gt (Nat.lt_of_lt_of_le I.lt hb),I.nofs hb,.inr (Nat.le_trans I.sz hb),fun x c e z=>?_,fun p hp z=>?_⟩
 ·obtain⟨v,q⟩:=I.cell x c e
  exact absurd (Nat.lt_of_lt_of_le q.lt (by rw [z];exact hb)) (Nat.lt_irrefl _)
 ·exact absurd (Nat.lt_of_lt_of_le (Heap.lt_size (I.pin p hp).1) (by rw [z];exact hb)) (Nat.lt_irrefl _)
structure Turn (P:Program) (w:World) (K:W.Frag) (tg:Expr) (J:It) (fp:List Addr) (it:Addr) (tn:Nat→Heap→Prop):Prop where
 mem:it∈fp
 obj:∀i h,tn i h→∀b∈fp,∃o,h.get? b=some o∧∀v,o.data≠.cell v
 keep:∀i h h',tn i h→(∀b∈fp,∀o,h.get? b=some o→h'.get? b=some o)→tn i h'
 item:∀(X:Cx),X.prog=P→X.w=w→X.K=K→X.calm=true→∀(i:Nat) (pins:List (Addr×Obj)) (s:Shared) (σ : St) (H:Hp) (E:Value→Shared→Prop),Inv X pins σ H s→(∀b∈fp,FpOk X pins H b)→tn i s.heap→J.go i H→
  wpAny (model P w) X.A (pyNext (.ref it)) (fun r s1=>∃u,r=some u∧
   wpAny (model P w) X.A (letOwnedTupleGo tg (.ref it) u) (fun _ s2=>∃x H',Inv X pins σ H' s2∧RelV x u∧J.yld i H x H'∧tn (i+1) s2.heap∧∀b∈fp,H' b=none) E s1) E s
 done:∀(X:Cx),X.prog=P→X.w=w→X.K=K→X.calm=true→∀(i:Nat) (pins:List (Addr×Obj)) (s:Shared) (σ : St) (H:Hp) (E:Value→Shared→Prop),Inv X pins σ H s→(∀b∈fp,FpOk X pins H b)→tn i s.heap→J.stop i H→
  wpAny (model P w) X.A (pyNext (.ref it)) (fun r s1=>r=none∧Inv X pins σ H s1) E s
 self:∀(A:Around) (i:Nat) (s:Shared) (Q:Value→Shared→Prop) (E:Value→Shared→Prop),tn i s.heap→Q (.ref it) s→wpAny (model P w) A (pyIter (.ref it)) Q E s
abbrev TI:=St→Hp→(It→Hp→Prop)→Prop
def PIE (X:Cx) (pins:List (Addr×Obj)) (σ : St) (tg:Expr) (R:It→Hp→Prop) (itv:Value) (s2:Shared):Prop :=
 ∃(it:Addr) (fp:List Addr) (tn:Nat→Heap→Prop) (J:It) (H':Hp),itv = .ref it∧Inv X pins σ H' s2∧Turn X.prog X.w X.K tg J fp it tn∧tn 0 s2.heap∧(∀b∈fp,FpOk X pins H' b)∧R J H'
def PI (X:Cx) (tg iter:Expr) (wi:TI):Prop :=
 ∀(pins:List (Addr×Obj)) (s:Shared) (σ : St) (H:Hp) (R:It→Hp→Prop),Inv X pins σ H s→wi σ H R→
  wpAny (model X.prog X.w) X.A (eval iter X.env) (fun v s1=>wpAny (model X.prog X.w) X.A (pyIter v) (PIE X pins σ tg R) X.xe s1) X.xe s
theorem CKz {M:Model} {A:Around} {E:Value→Shared→Prop} {s:Shared} {tg:Expr} {it:Addr} {u:Value} {o:Obj} {n:String} {vs:Array Value} {Q:Unit→Shared→Prop} (ho:s.heap.get? it=some o) (hc:o.cls = .type n) (hd:o.data = .fields vs)
  (hn:["enumerate","zip","dict_itemiterator","dict_reverseitemiterator","odict_iterator","itertools.zip_longest","itertools.pairwise"].contains n=false) (hQ:Q () s):wpAny M A (letOwnedTupleGo tg (.ref it) u) Q E s:=by
 unfold letOwnedTupleGo;cases tg <;> first
  | exact wpAny_pure hQ
  | (cases u <;> first
    | exact wpAny_pure hQ
    | (refine wpAny_bind (wpAny_load ho ?_);rw [hc,hd];show wpAny M A (if (["enumerate","zip","dict_itemiterator","dict_reverseitemiterator","odict_iterator","itertools.zip_longest","itertools.pairwise"].contains n&&vs[0]? == some (rawInt _))=true then _ else _) Q E s;rw [if_neg (by intro h;rw [hn,Bool.false_and] at h;cases h)];exact wpAny_pure hQ))
def Itl (K:W.Frag) (a:Addr):It :=
 ⟨fun i H=>∃xs x,SqL K H a xs∧xs[i]?=some x,fun i H x H'=>H'=H∧∀xs,SqL K H a xs→xs[i]?=some x,fun i H=>∃xs,SqL K H a xs∧xs.length≤i⟩
def Itr (lo:Int) (n:Nat):It:=⟨fun i _=>i<n,fun i H x H'=>H'=H∧x = .int (lo+i),fun i _=>n≤i⟩
theorem vIz {P:Program} {w:World} {K:W.Frag} {tg:Expr} (a it:Addr):Turn P w K tg (Itl K a) [it] it (fun i h=>h.IsListIter it a i) where
 mem:=by simp
 obj:=fun i h st b hb=>by
  have e:b=it:=by simpa using hb
  subst e;obtain⟨o,e,c,d⟩:=st;exact⟨o,e,fun v z=>by rw [d] at z;cases z⟩
 keep:=fun i h h' st k=>st.at fun o e=>k it (by simp) o e
 item:=by
  intro X hP hw hK hc i pins s σ H E I hf st hg;subst hP hw hK;obtain⟨xs,x,hq,hx⟩:=hg;obtain⟨its,rv,p,hz⟩:=I.list hq;obtain⟨u,hu,ru⟩:=rv.get hx;obtain⟨f0,f1,f2,f3,f4,f5⟩:=hf it (by simp);refine wpAny_pyNext_list_item st p.isList (x:=u) (by simpa using hu) fun h' st' sb=>?_;have I1:Inv X pins σ H {s with heap:=h'}:=I.turned (t':=s.toks) (fun b o hb e=>(sb.2 b hb).trans e) f0 f1 f3 f4 f5;obtain⟨o,e,c,d⟩:=id st';exact⟨u,rfl,CKz (s:={s with heap:=h'}) e c d (by decide) ⟨x,H,I1,ru,⟨rfl,fun ys hy=>by rw [I.list_inj hy hq];exact hx⟩,st',fun b hb=>(hf b hb).1⟩⟩
 done:=by
  intro X hP hw hK hc i pins s σ H E I hf st hg;subst hP hw hK;obtain⟨xs,hq,hx⟩:=hg;obtain⟨its,rv,p,hz⟩:=I.list hq;obtain⟨f0,f1,f2,f3,f4,f5⟩:=hf it (by simp);have hl:=rv.length;exact wpAny_pyNext_list_end (I.ok.hd hc) st p.isList (by simp;omega) fun h' eb=>⟨rfl,I.turned (t':=s.toks) (fun b o hb e=>eb b o hb e) f0 f1 f3 f4 f5⟩
 self:=fun _ _ _ _ _ st h=>wpAny_pyIter_listiter st h
theorem tMz {P:Program} {w:World} {K:W.Frag} {tg:Expr} (it:Addr) (lo:Int) (n:Nat):Turn P w K tg (Itr lo n) [it] it (fun i h=>IsRangeIter h it (lo+(i:Nat)*1) ((n:Int)-(i:Nat)) 1) where
 mem:=by simp
 obj:=fun i h st b hb=>by
  have e:b=it:=by simpa using hb
  subst e
  exact⟨_,st,fun v z=>by
   have z':Data.fields _=Data.cell v:=z;cases z'⟩
 keep:=fun i h h' st k=>k it (by simp) _ st
 item:=by
  intro X hP hw hK hc i pins s σ H E I hf st hg;subst hP hw hK;obtain⟨f0,f1,f2,f3,f4,f5⟩:=hf it (by simp);have W:=Walks.range (prog:=X.prog) (w:=X.w) (I.ok.hd hc) it lo 1 n;refine W.item i s _ _ hg st fun v h' tk hv st' kk=>?_;obtain⟨t,rfl⟩:=hv;have I1:Inv X pins σ H {s with heap:=h',toks:=tk}:=I.turned (fun b o hb e=>kk b o (by simpa using hb) e) f0 f1 f3 f4 f5;refine⟨_,rfl,CKz (s:={s with heap:=h',toks:=tk}) (n := "range_iterator") st' rfl rfl (by decide) ⟨.int (lo+i),H,I1,⟨t,?_⟩,⟨rfl,rfl⟩,st',fun b hb=>(hf b hb).1⟩⟩;rw [Int.mul_one]
 done:=by
  intro X hP hw hK hc i pins s σ H E I hf st hg;subst hP hw hK;obtain⟨f0,f1,f2,f3,f4,f5⟩:=hf it (by simp);exact wpAny_pyNext_range_end (I.ok.hd hc) st (by have:n≤i:=hg;omega) fun h' eb=>⟨rfl,I.turned (t':=s.toks) (fun b o hb e=>eb b o hb e) f0 f1 f3 f4 f5⟩
 self:=fun _ _ _ _ _ st h=>wpAny_pyIter_rangeiter st h
end L2
namespace L2
open PySem PySem.Spec PyProof.Rows
section
variable {X:Cx} {tg:Expr}
def iList (K:W.Frag) (tl:TE):TI:=fun σ H R=>tl σ H fun x H1=>∃a,x = .ref a∧(∃xs,SqL K H1 a xs)∧R (Itl K a) H1
theorem eT {l:Expr} {tl:TE} (hl:PE X l tl):PI X tg l (iList X.K tl):=by
 intro pins s σ H R I h;refine thn (hl pins s σ H _ I h) fun v s1 ⟨x,H1,I1,r1,q1⟩=>?_;obtain⟨a,e,⟨xs,hq⟩,q⟩:=q1;subst e;cases r1;obtain⟨its,rv,p,hz⟩:=I1.list hq;refine wpAny_pyIter_list p.isList ?_;refine⟨s1.heap.objs.size,[s1.heap.objs.size],_,_,H1,rfl,I1.kept (t':=s1.toks) fun b o e=>Heap.get?_push_of_some _ e,vIz a _,⟨_,Heap.get?_push_size _ rfl,rfl,rfl⟩,fun b hb=>?_,q⟩;have e:b=s1.heap.objs.size:=by simpa using hb
 subst e;exact I1.fpOk (Nat.le_refl _) (I1.hok.fresh (Nat.le_refl _))
theorem rTz {pins:List (Addr×Obj)} {σ : St} {H:Hp} {s:Shared} {R:It→Hp→Prop} {E:Value→Shared→Prop} {lo hi:Int} {t u v:Tok} {tk:Nat} (I:Inv X pins σ H s) (h1 : -(2 ^ 62)≤lo) (h2:lo<2 ^ 62) (h3 : -(2 ^ 62)≤hi) (h4:hi<2 ^ 62)
  (q:R (Itr lo (hi-lo).toNat) H):wpAny (model X.prog X.w) X.A (pyIter (.ref s.heap.objs.size)) (PIE X pins σ tg R) E {s with heap:=s.heap.push {cls := .type "range",data := .fields #[.int lo t,.int hi u,.int 1 v]},toks:=tk}:=by
 refine wpAny_pyIter_range (IsRange.new ..) (small_one h1 h2 h3 h4) ?_;have I1:Inv X pins σ H {s with heap:=s.heap.push {cls := .type "range",data := .fields #[.int lo t,.int hi u,.int 1 v]},toks:=tk}:=I.kept fun b o e=>Heap.get?_push_of_some _ e
 refine⟨(s.heap.push {cls := .type "range",data := .fields #[.int lo t,.int hi u,.int 1 v]}).objs.size,[(s.heap.push {cls := .type "range",data := .fields #[.int lo t,.int hi u,.int 1 v]}).objs.size],_,_,H,rfl,
  I1.kept (t':=tk) fun b o e=>Heap.get?_push_of_some _ e,tMz _ lo (hi-lo).toNat,?_,fun b hb=>?_,q⟩
 ·have e1:lo+((0:Nat):Int)*1=lo:=by simp
  have e2:(((hi-lo).toNat:Nat):Int)-((0:Nat):Int)=Builtin.Range.rangeSize lo hi 1:=by rw [rangeSize_one];split <;> omega
  show IsRangeIter _ _ (lo+((0:Nat):Int)*1) ((((hi-lo).toNat:Nat):Int)-((0:Nat):Int)) 1;rw [e1,e2];exact Heap.get?_push_size _ rfl
 ·have e:b=(s.heap.push {cls := .type "range",data := .fields #[.int lo t,.int hi u,.int 1 v]}).objs.size:=by simpa using hb
  subst e;exact I1.fpOk (Nat.le_refl _) (I1.hok.fresh (Nat.le_refl _))
def iRng1 (ta:TA):TI:=fun σ H R=>ta σ H fun vs H1=>∃j:Int,vs=[.int j]∧-(2 ^ 62)≤j∧j<2 ^ 62∧R (Itr 0 j.toNat) H1
def iRng2 (ta:TA):TI:=fun σ H R=>ta σ H fun vs H1=>∃i j:Int,vs=[.int i,.int j]∧(-(2 ^ 62)≤i∧i<2 ^ 62∧-(2 ^ 62)≤j∧j<2 ^ 62)∧R (Itr i (j-i).toNat) H1
theorem wGz {a:Expr} {ta:TA} {p pos:Pos} (hg:Gl X "range") (hm:X.mg "range" = none) (ha:PA X [a] ta) (hs:starEach [a] X.env=[(false,eval a X.env)]:=by rfl):PI X tg (.Call (.Name "range" p) [a] [] pos) (iRng1 ta):=by
 intro pins s σ H R I h;refine Call_ (iIz I hg hm boot_range (PyProof.Rows.callWith_type1 (thn (ha pos pins s σ H _ I h) fun us s1 ⟨vs,H1,I1,r1,q1⟩=>?_) hs rfl));obtain⟨j,e,q1,q2,q⟩:=q1;subst e;cases r1 with
 | cons r rr =>
  cases rr;obtain⟨t,rfl⟩:=r;exact call_range_1 (rTz I1 (by omega) (by omega) q1 q2 (by simpa using q))
theorem wFz {a b:Expr} {ta:TA} {p pos:Pos} (hg:Gl X "range") (hm:X.mg "range" = none) (ha:PA X [a,b] ta) (hs:starEach [a,b] X.env=[(false,eval a X.env),(false,eval b X.env)]:=by rfl) (hs2:starEach [b] X.env=[(false,eval b X.env)]:=by rfl) :
  PI X tg (.Call (.Name "range" p) [a,b] [] pos) (iRng2 ta):=by
 intro pins s σ H R I h;refine Call_ (iIz I hg hm boot_range (PyProof.Rows.callWith_type1 (thn (ha pos pins s σ H _ I h) fun us s1 ⟨vs,H1,I1,r1,q1⟩=>?_) (by rw [hs,hs2]) (by rw [hs2];rfl)));obtain⟨i,j,e,⟨q1,q2,q3,q4⟩,q⟩:=q1;subst e;cases r1 with
 | cons r rr =>
  cases rr with
  | cons r' rr =>
   cases rr;obtain⟨t,rfl⟩:=r;obtain⟨t',rfl⟩:=r';exact call_range_2 (rTz I1 q1 q2 q3 q4 q)
def tFor (wi:TI) (g:TG) (tb:TS):TS:=fun D σ H=>wi σ H fun J H1=>∃W:Nat→Nat→St→Hp→Prop,(∃m,W 0 m σ H1)∧∀i m σ H,W i m σ H→
 (J.stop i H∧D.nx σ H)∨(J.go i H∧∃N:St→Hp→Prop,(∀σ' H',N σ' H'→∃m',m'<m∧W (i+1) m' σ' H')∧∀x H',J.yld i H x H'→g x σ H' fun σ2 H2=>tb {D with nx:=N,ct:=N,bk:=D.nx} σ2 H2)
def pinsAt (fp:List Addr) (h:Heap):List (Addr×Obj):=fp.filterMap fun b=>(h.get? b).map fun o=>(b,o)
theorem zU {fp:List Addr} {h:Heap} {b:Addr} {o:Obj} (hb:b∈fp) (e:h.get? b=some o):(b,o)∈pinsAt fp h:=List.mem_filterMap.mpr ⟨b,hb,by rw [e];rfl⟩
theorem wPz {fp:List Addr} {h:Heap} {p:Addr×Obj} (hp:p∈pinsAt fp h):p.1∈fp∧h.get? p.1=some p.2:=by
 obtain⟨b,hb,e⟩:=List.mem_filterMap.mp hp;cases q:h.get? b with
 | none=>rw [q] at e;cases e
 | some o =>
  rw [q] at e;have e':(b,o)=p:=Option.some.inj e;subst e';exact⟨hb,q⟩
theorem Inv.pinned {pins:List (Addr×Obj)} {σ : St} {H:Hp} {s:Shared} {fp:List Addr} (I:Inv X pins σ H s) (hf:∀b∈fp,FpOk X pins H b) (ho:∀b∈fp,∃o,s.heap.get? b=some o∧∀v,o.data≠.cell v):Inv X (pins++pinsAt fp s.heap) σ H s :=
 I.pins_of fun p hp=>(List.mem_append.mp hp).elim (fun z=>I.pin p (List.mem_append_right _ z)) fun z=>by
  obtain⟨hb,e⟩:=wPz z;obtain⟨f0,f1,f2,_⟩:=hf p.1 hb;obtain⟨o,e',d⟩:=ho p.1 hb;rw [e] at e';cases e';exact⟨e,f0,f1,f2,d⟩
theorem Inv.unpinned {pins pl:List (Addr×Obj)} {σ : St} {H:Hp} {s:Shared} (I:Inv X (pins++pl) σ H s):Inv X pins σ H s:=I.pins_of fun p hp=>I.pin p (List.mem_append_right _ (List.mem_append_left _ hp))
theorem lN {iter:Expr} {body:List Stmt} {wi:TI} {g:TG} {tb:TS} {pos:Pos} (hp:PassesOwn (model X.prog X.w) X.A X.env X.xe) (hc:X.calm=true) (hi:PI X tg iter wi) (hg:PG X tg g) (hb:PSs X body tb)
  (hs:∀x,foldedSetIterable iter X.env x=pure x:=by intro _;rfl):PS X (.For tg iter body [] pos) (tFor wi g tb):=by
 intro pins s σ H D I h;refine wpAny_For (thn (hi pins s σ H _ I h) fun v s1 h1=>thn h1 fun itv s2 h2=>?_) hs;obtain⟨it,fp,tn,J,H2,e,I2,T,st2,f2,W,⟨m0,w0⟩,turn⟩:=h2;subst e;have stat:∀{H':Hp},(∀b∈fp,H' b=none)→∀b∈fp,FpOk X pins H' b:=fun hn b hb=>⟨hn b hb,(f2 b hb).2⟩;refine codeAny_forLoop_any (fun n s'=>∃i σ' H',Inv X pins σ' H' s'∧tn i s'.heap∧(∀b∈fp,H' b=none)∧W i n σ' H') ?_ m0 ⟨0,σ,H2,I2,st2,fun b hb=>(f2 b hb).1,w0⟩;rintro n s3 ⟨i,σ3,H3,I3,st3,fr3,w3⟩;rcases turn i n σ3 H3 w3 with ⟨stop,qn⟩ | ⟨go,N,hN,step⟩
 ·refine wpAny_passesOwn hp (thn (T.done X rfl rfl rfl hc i pins s3 σ3 H3 X.xe I3 (stat fr3) st3 stop) fun r s4 ⟨hr,I4⟩=>?_)
  subst hr;exact wpAny_execs_nil ⟨σ3,H3,I4,qn⟩
 ·refine wpAny_passesOwn hp (thn (T.item X rfl rfl rfl hc i pins s3 σ3 H3 X.xe I3 (stat fr3) st3 go) fun r s4 ⟨u,hr,h4⟩=>?_)
  subst hr;refine wpAny_passesOwn hp (thn h4 fun _ s5 ⟨x,H5,I5,r5,y5,st5,fr5⟩=>?_);have I5':=I5.pinned (stat fr5) (T.obj _ _ st5);refine wpAny_passesOwn hp (thn (hg _ s5 σ3 H5 x u _ I5' r5 (step x H5 y5)) fun _ s6 ⟨σ6,H6,I6,q6⟩=>?_);refine wpAny_passesOwn hp (thn (hb _ s6 σ6 H6 _ I6 q6) fun f s7 q7=>?_);have again:∀{σ7:St} {H7:Hp},Inv X (pins++pinsAt fp s5.heap) σ7 H7 s7→N σ7 H7→∃m,m<n∧∃i σ' H',Inv X pins σ' H' s7∧tn i s7.heap∧(∀b∈fp,H' b=none)∧W i m σ' H':=fun {σ7 H7} I7 n7=>by
   obtain⟨m',hm,w7⟩:=hN σ7 H7 n7;refine⟨m',hm,i+1,σ7,H7,I7.unpinned,T.keep _ _ _ st5 fun b hb o e=>(I7.pin (b,o) (List.mem_append_right _ (List.mem_append_right _ (zU hb e)))).1,fun b hb=>?_,w7⟩;obtain⟨o,e,d⟩:=T.obj _ _ st5 b hb;exact (I7.pin (b,o) (List.mem_append_right _ (List.mem_append_right _ (zU hb e)))).2.1
  cases f with
  | next=>obtain⟨σ7,H7,I7,n7⟩:=q7;exact again I7 n7
  | cont=>obtain⟨σ7,H7,I7,n7⟩:=q7;exact again I7 n7
  | brk=>obtain⟨σ7,H7,I7,q7⟩:=q7;exact⟨σ7,H7,I7.unpinned,q7⟩
  | ret v=>obtain⟨x7,σ7,H7,I7,r7,q7⟩:=q7;exact⟨x7,σ7,H7,I7.unpinned,r7,q7⟩
end
theorem iA {K:W.Frag} {a:Addr} {xs:List V} {g:TG} {tb:TS} {D:Ends} {σ : St} {H:Hp} (Pv:Nat→St→Hp→Prop) (h0:Pv 0 σ H) (hl:∀i σ H,i≤xs.length→Pv i σ H→SqL K H a xs)
  (hs:∀i x σ H,xs[i]?=some x→Pv i σ H→g x σ H fun σ2 H2=>tb {D with nx:=Pv (i+1),ct:=Pv (i+1),bk:=D.nx} σ2 H2) (hd:∀σ H,Pv xs.length σ H→D.nx σ H) :
  ∃W:Nat→Nat→St→Hp→Prop,(∃m,W 0 m σ H)∧∀i m σ H,W i m σ H→
   ((Itl K a).stop i H∧D.nx σ H)∨((Itl K a).go i H∧∃N:St→Hp→Prop,(∀σ' H',N σ' H'→∃m',m'<m∧W (i+1) m' σ' H')∧∀x H',(Itl K a).yld i H x H'→g x σ H' fun σ2 H2=>tb {D with nx:=N,ct:=N,bk:=D.nx} σ2 H2):=by
 refine⟨fun i m σ H=>m=xs.length-i∧i≤xs.length∧Pv i σ H,⟨xs.length,by simp,Nat.zero_le _,h0⟩,?_⟩;rintro i m σ H ⟨rfl,hi,p⟩;have q:=hl i σ H hi p
 by_cases hlt:i<xs.length
 ·refine .inr ⟨⟨xs,xs[i],q,by simp [hlt]⟩,Pv (i+1),fun σ' H' p'=>⟨xs.length-(i+1),by omega,rfl,hlt,p'⟩,fun x H' y=>?_⟩
  obtain⟨e,y⟩:=y;subst e;exact hs i x σ _ (y xs q) p
 ·have e:i=xs.length:=by omega
  subst e;exact .inl ⟨⟨xs,q,Nat.le_refl _⟩,hd σ H p⟩
theorem nTz {lo:Int} {n:Nat} {g:TG} {tb:TS} {D:Ends} {σ : St} {H:Hp} (Pv:Nat→St→Hp→Prop) (h0:Pv 0 σ H)
  (hs:∀i σ H,i<n→Pv i σ H→g (.int (lo+i)) σ H fun σ2 H2=>tb {D with nx:=Pv (i+1),ct:=Pv (i+1),bk:=D.nx} σ2 H2) (hd:∀σ H,Pv n σ H→D.nx σ H) :
  ∃W:Nat→Nat→St→Hp→Prop,(∃m,W 0 m σ H)∧∀i m σ H,W i m σ H→
   ((Itr lo n).stop i H∧D.nx σ H)∨((Itr lo n).go i H∧∃N:St→Hp→Prop,(∀σ' H',N σ' H'→∃m',m'<m∧W (i+1) m' σ' H')∧∀x H',(Itr lo n).yld i H x H'→g x σ H' fun σ2 H2=>tb {D with nx:=N,ct:=N,bk:=D.nx} σ2 H2):=by
 refine⟨fun i m σ H=>m=n-i∧i≤n∧Pv i σ H,⟨n,by simp,Nat.zero_le _,h0⟩,?_⟩;rintro i m σ H ⟨rfl,hi,p⟩
 by_cases hlt:i<n
 ·refine .inr ⟨hlt,Pv (i+1),fun σ' H' p'=>⟨n-(i+1),by omega,rfl,hlt,p'⟩,fun x H' y=>?_⟩
  obtain⟨e,y⟩:=y;subst e y;exact hs i σ _ hlt p
 ·have e:i=n:=by omega
  subst e;exact .inl ⟨Nat.le_refl _,hd σ H p⟩
end L2
namespace L2
open PySem PySem.Spec PyProof.Rows
abbrev R2:=V→V→Hp→VK→Prop
def OpR (X:Cx) (f:Value→Value→Sem Value) (r:R2):Prop :=
 ∀(pins:List (Addr×Obj)) (s:Shared) (σ : St) (H:Hp) (x y:V) (v u:Value) (Q:VK),Inv X pins σ H s→RelV x v→RelV y u→r x y H Q→
  wpAny (model X.prog X.w) X.A (f v u) (EP X pins σ Q) X.xe s
def UnR (X:Cx) (f:Value→Sem Value) (r:V→Hp→VK→Prop):Prop :=
 ∀(pins:List (Addr×Obj)) (s:Shared) (σ : St) (H:Hp) (x:V) (v:Value) (Q:VK),Inv X pins σ H s→RelV x v→r x H Q→
  wpAny (model X.prog X.w) X.A (f v) (EP X pins σ Q) X.xe s
def hKz (X:Cx) (f:Value) (r:List V→Hp→VK→Prop):Prop :=
 ∀(pins:List (Addr×Obj)) (s:Shared) (σ : St) (H:Hp) (xs:List V) (us:List Value) (Q:VK),Inv X pins σ H s→Vals xs us→r xs H Q→
  wpAny (model X.prog X.w) X.A (call f us) (EP X pins σ Q) X.xe s
def tOp (r:R2) (ta tb:TE):TE:=fun σ H Q=>ta σ H fun x H1=>tb σ H1 fun y H2=>r x y H2 Q
def tUn (r:V→Hp→VK→Prop) (ta:TE):TE:=fun σ H Q=>ta σ H fun x H1=>r x H1 Q
inductive rI (C:Int→Int→Prop) (g:Int→Int→V) (x y:V) (H:Hp) (Q:VK):Prop
 | mk (i j:Int) (_:x = .int i) (_:y = .int j) (_:C i j) (_:Q (g i j) H):rI C g x y H Q
inductive rI0 (g:Int→Int→V) (x y:V) (H:Hp) (Q:VK):Prop
 | mk (i j:Int) (_:x = .int i) (_:y = .int j) (_:Q (g i j) H):rI0 g x y H Q
inductive rU (g:Int→V) (x:V) (H:Hp) (Q:VK):Prop
 | mk (i:Int) (_:x = .int i) (_:Q (g i) H):rU g x H Q
section
variable {X:Cx} {a b c:Expr} {ta tb tc:TE} {pos:Pos}
theorem binT (ha:PE X a ta) (hb:PE X b tb) {pins:List (Addr×Obj)} {s:Shared} {σ : St} {H:Hp} {R:V→V→Hp→Prop} (I:Inv X pins σ H s)
  (h:ta σ H fun x H1=>tb σ H1 fun y H2=>R x y H2) {Q:Value→Shared→Prop} {f:Value→Value→Sem Value}
  (hf:∀v u s2 x y H2,Inv X pins σ H2 s2→RelV x v→RelV y u→R x y H2→wpAny (model X.prog X.w) X.A (f v u) Q X.xe s2) :
  wpAny (model X.prog X.w) X.A (eval a X.env) (fun v s₁ => wpAny (model X.prog X.w) X.A (eval b X.env) (fun u s₂ => wpAny (model X.prog X.w) X.A (f v u) Q X.xe s₂) X.xe s₁) X.xe s:=by
 refine thn (ha pins s σ H _ I h) fun v s1 ⟨x,H1,I1,r1,q1⟩=>?_;refine thn (hb pins s1 σ H1 _ I1 q1) fun u s2 ⟨y,H2,I2,r2,q2⟩=>?_;exact hf v u s2 x y H2 I2 r1 r2 q2
theorem aZ {op:Operator} {r:R2} (ho:OpR X (binaryOp op) r) (ha:PE X a ta) (hb:PE X b tb):PE X (.BinOp a op b pos) (tOp r ta tb):=by
 intro pins s σ H Q I h;exact wpAny_BinOp (binT ha hb I h fun v u s2 x y H2 I2 rx ry q=>ho pins s2 σ H2 x y v u Q I2 rx ry q)
theorem jUz {op:UnaryOp} {r:V→Hp→VK→Prop} (ho:UnR X (unaryOp op) r) (ha:PE X a ta):PE X (.UnaryOp op a pos) (tUn r ta):=by
 intro pins s σ H Q I h;exact UnaryOp_ (thn (ha pins s σ H _ I h) fun v s1 ⟨x,H1,I1,r1,q1⟩=>ho pins s1 σ H1 x v Q I1 r1 q1)
theorem opI {f:Value→Value→Sem Value} {C:Int→Int→Prop} {g:Int→Int→Int}
  (rule:∀(i j:Int) (t u:Tok) (s:Shared) (Q:Value→Shared→Prop) (E:Value→Shared→Prop),C i j→Q (.int (g i j) s.toks) {s with toks:=s.toks+1}→wpAny (model X.prog X.w) X.A (f (.int i t) (.int j u)) Q E s) :
  OpR X f (rI C fun i j => .int (g i j)):=by
 intro pins s σ H x y v u Q I rx ry h;obtain⟨i,j,rfl,rfl,hc,q⟩:=h;obtain⟨t,rfl⟩:=rx;obtain⟨t',rfl⟩:=ry;exact rule i j t t' s _ _ hc ⟨.int (g i j),H,I.tok _,⟨_,rfl⟩,q⟩
theorem opI0 {f:Value→Value→Sem Value} {g:Int→Int→Int}
  (rule:∀(i j:Int) (t u:Tok) (s:Shared) (Q:Value→Shared→Prop) (E:Value→Shared→Prop),Q (.int (g i j) s.toks) {s with toks:=s.toks+1}→wpAny (model X.prog X.w) X.A (f (.int i t) (.int j u)) Q E s) :
  OpR X f (rI0 fun i j => .int (g i j)):=by
 intro pins s σ H x y v u Q I rx ry h;obtain⟨i,j,rfl,rfl,q⟩:=h;obtain⟨t,rfl⟩:=rx;obtain⟨t',rfl⟩:=ry;exact rule i j t t' s _ _ ⟨.int (g i j),H,I.tok _,⟨_,rfl⟩,q⟩
theorem opB0 {f:Value→Value→Sem Value} {g:Int→Int→Bool}
  (rule:∀(i j:Int) (t u:Tok) (s:Shared) (Q:Value→Shared→Prop) (E:Value→Shared→Prop),Q (.bool (g i j)) s→wpAny (model X.prog X.w) X.A (f (.int i t) (.int j u)) Q E s) :
  OpR X f (rI0 fun i j => .bl (g i j)):=by
 intro pins s σ H x y v u Q I rx ry h;obtain⟨i,j,rfl,rfl,q⟩:=h;obtain⟨t,rfl⟩:=rx;obtain⟨t',rfl⟩:=ry;exact rule i j t t' s _ _ ⟨.bl (g i j),H,I,rfl,q⟩
def CPow (i j:Int):Prop:=0≤j∧j≤1000000∧i.natAbs<2 ^ 64
def CMul (i j:Int):Prop:=(-(2 ^ 64)<i∧i<2 ^ 64)∨(-(2 ^ 64)<j∧j<2 ^ 64)
theorem CMul.ok {i j:Int} (h:CMul i j):IntMulOk i j:=by
 rcases h with ⟨h1,h2⟩ | ⟨h1,h2⟩
 ·exact .of_left (intBits_le_64 h1 h2)
 ·exact .of_right (intBits_le_64 h1 h2)
theorem tLz (k:Nat):(0:Int)≤2 ^ k:=by
 rw [two_pow_cast];exact Int.natCast_nonneg _
theorem gN:OpR X (binaryOp .Add) (rI0 fun i j => .int (i+j)):=opI0 fun _ _ _ _ _ _ _ q=>add_int q
theorem oV:OpR X (binaryOp .Sub) (rI0 fun i j => .int (i-j)):=opI0 fun _ _ _ _ _ _ _ q=>sub_int q
theorem ARz:OpR X (binaryOp .Mult) (rI CMul fun i j => .int (i*j)):=opI fun _ _ _ _ _ _ _ hc q=>mul_int q hc.ok
theorem mRz:OpR X (binaryOp .Mod) (rI (fun _ j=>0<j) fun i j => .int (i%j)):=opI fun i j _ _ _ _ _ hc q=>by
 have h1:(0:Int)<j:=hc;exact mod_int' (by omega) (by rw [Int.fmod_eq_emod_of_nonneg i (by omega)];exact q)
theorem AQz:OpR X (binaryOp .LShift) (rI CPow fun i j => .int (i*2 ^ j.toNat)):=opI fun _ _ _ _ _ _ _ hc q=>lshift_int_small hc.1 hc.2.1 hc.2.2 q
theorem APz:OpR X (binaryOp .RShift) (rI (fun _ j=>0≤j) fun i j => .int (i/2 ^ j.toNat)):=opI fun i j _ _ _ _ _ hc q =>
 rshift_int hc (by rw [Int.fdiv_eq_ediv_of_nonneg i (tLz _)];exact q)
theorem unI {f:Value→Sem Value} {g:Int→Int}
  (rule:∀(i:Int) (t:Tok) (s:Shared) (Q:Value→Shared→Prop) (E:Value→Shared→Prop),Q (.int (g i) s.toks) {s with toks:=s.toks+1}→wpAny (model X.prog X.w) X.A (f (.int i t)) Q E s) :
  UnR X f (rU fun i => .int (g i)):=by
 intro pins s σ H x v Q I rx h;obtain⟨i,rfl,q⟩:=h;obtain⟨t,rfl⟩:=rx;exact rule i t s _ _ ⟨.int (g i),H,I.tok _,⟨_,rfl⟩,q⟩
theorem xA:UnR X (unaryOp .USub) (rU fun i => .int (-i)):=unI fun _ _ _ _ _ q=>neg_int q
end
def scal:V→V→Bool
 | .non,.non=>true | .non,.int _=>true | .int _,.non=>true | .non,.bl _=>true | .bl _,.non=>true | .non,.str _=>true | .str _,.non=>true
 | .int _,.int _=>true | .bl _,.bl _=>true | .str _,.str _=>true | .byt _,.byt _=>true
 | .int _,.str _=>true | .str _,.int _=>true | .bl _,.str _=>true | .str _,.bl _=>true
 | _,_=>false
def rEq:R2:=fun x y H Q=>scal x y=true∧Q (.bl (decide (x=y))) H
def rNe:R2:=fun x y H Q=>scal x y=true∧Q (.bl (!decide (x=y))) H
theorem yEz {i j:Int}:decide (V.int i=V.int j)=(i == j):=by
 rw [Bool.eq_iff_iff]
 simp
theorem AYz {i j:Bool}:decide (V.bl i=V.bl j)=(i == j):=by
 rw [Bool.eq_iff_iff]
 simp
theorem yDz {i j:Str}:decide (V.str i=V.str j)=(i == j):=by
 rw [Bool.eq_iff_iff]
 simp
theorem yFz {i j:Array UInt8}:decide (V.byt i=V.byt j)=(i.toList == j.toList):=by
 rw [Bool.eq_iff_iff];cases i;cases j
 simp
section
variable {X:Cx} {a b c:Expr} {ta tb tc:TE} {pos:Pos}
theorem dI {pins:List (Addr×Obj)} {σ : St} {H:Hp} {s:Shared} {Q:VK} {k k':Bool} (I:Inv X pins σ H s) (q:Q (.bl k) H) (e:k=k'):EP X pins σ Q (.bool k') s:=by
 subst e;exact⟨.bl k,H,I,rfl,q⟩
theorem gW:OpR X (compareOp .Eq) rEq:=by
 intro pins s σ H x y v u Q I rx ry h;obtain⟨hs,q⟩:=h;cases x with
 | non =>
  cases rx;cases y with
  | non=>cases ry;exact PySem.EqNone.eq_none_none (dI I q (by simp))
  | bl j=>cases ry;exact PySem.EqNone.eq_none_bool (dI I q (by simp))
  | int j=>obtain⟨t',rfl⟩:=ry;exact PySem.EqNone.eq_none_int (dI I q (by simp))
  | str j=>obtain⟨t',rfl⟩:=ry;exact PySem.EqNone.eq_none_str (dI I q (by simp))
  | _=>exact absurd (show false=true from hs) Bool.false_ne_true
 | bl i =>
  cases rx;cases y with
  | non=>cases ry;exact PySem.EqNone.eq_bool_none (dI I q (by simp))
  | bl j=>cases ry;exact eq_bool (dI I q AYz)
  | str j=>obtain⟨t',rfl⟩:=ry;exact PySem.EqMixed.eq_bool_str (dI I q (by simp))
  | _=>exact absurd (show false=true from hs) Bool.false_ne_true
 | int i =>
  obtain⟨t,rfl⟩:=rx;cases y with
  | non=>cases ry;exact PySem.EqNone.eq_int_none (dI I q (by simp))
  | int j=>obtain⟨t',rfl⟩:=ry;exact eq_int (dI I q yEz)
  | str j=>obtain⟨t',rfl⟩:=ry;exact PySem.EqMixed.eq_int_str (dI I q (by simp))
  | _=>exact absurd (show false=true from hs) Bool.false_ne_true
 | str i =>
  obtain⟨t,rfl⟩:=rx;cases y with
  | non=>cases ry;exact PySem.EqNone.eq_str_none (dI I q (by simp))
  | bl j=>cases ry;exact PySem.EqMixed.eq_str_bool (dI I q (by simp))
  | int j=>obtain⟨t',rfl⟩:=ry;exact PySem.EqMixed.eq_str_int (dI I q (by simp))
  | str j=>obtain⟨t',rfl⟩:=ry;exact eq_str (dI I q yDz)
  | _=>exact absurd (show false=true from hs) Bool.false_ne_true
 | byt i =>
  obtain⟨t,rfl⟩:=rx;cases y with
  | byt j=>obtain⟨t',rfl⟩:=ry;exact W.eq_bytes (dI I q yFz)
  | _=>exact absurd (show false=true from hs) Bool.false_ne_true
 | _=>cases y <;> exact absurd (show false=true from hs) Bool.false_ne_true
theorem BWz:OpR X (compareOp .NotEq) rNe:=by
 intro pins s σ H x y v u Q I rx ry h;obtain⟨hs,q⟩:=h;cases x with
 | non =>
  cases rx;cases y with
  | non=>cases ry;exact PySem.EqNone.ne_none_none (dI I q (by simp))
  | bl j=>cases ry;exact PySem.EqNone.ne_none_bool (dI I q (by simp))
  | int j=>obtain⟨t',rfl⟩:=ry;exact PySem.EqNone.ne_none_int (dI I q (by simp))
  | str j=>obtain⟨t',rfl⟩:=ry;exact PySem.EqNone.ne_none_str (dI I q (by simp))
  | _=>exact absurd (show false=true from hs) Bool.false_ne_true
 | bl i =>
  cases rx;cases y with
  | non=>cases ry;exact PySem.EqNone.ne_bool_none (dI I q (by simp))
  | bl j=>cases ry;exact ne_bool (dI I q (congrArg not AYz))
  | str j=>obtain⟨t',rfl⟩:=ry;exact PySem.EqMixed.ne_bool_str (dI I q (by simp))
  | _=>exact absurd (show false=true from hs) Bool.false_ne_true
 | int i =>
  obtain⟨t,rfl⟩:=rx;cases y with
  | non=>cases ry;exact PySem.EqNone.ne_int_none (dI I q (by simp))
  | int j=>obtain⟨t',rfl⟩:=ry;exact ne_int (dI I q (congrArg not yEz))
  | str j=>obtain⟨t',rfl⟩:=ry;exact PySem.EqMixed.ne_int_str (dI I q (by simp))
  | _=>exact absurd (show false=true from hs) Bool.false_ne_true
 | str i =>
  obtain⟨t,rfl⟩:=rx;cases y with
  | non=>cases ry;exact PySem.EqNone.ne_str_none (dI I q (by simp))
  | bl j=>cases ry;exact PySem.EqMixed.ne_str_bool (dI I q (by simp))
  | int j=>obtain⟨t',rfl⟩:=ry;exact PySem.EqMixed.ne_str_int (dI I q (by simp))
  | str j=>obtain⟨t',rfl⟩:=ry;exact ne_str (dI I q (congrArg not yDz))
  | _=>exact absurd (show false=true from hs) Bool.false_ne_true
 | byt i =>
  obtain⟨t,rfl⟩:=rx;cases y with
  | byt j=>obtain⟨t',rfl⟩:=ry;exact W.ne_bytes (dI I q (congrArg not yFz))
  | _=>exact absurd (show false=true from hs) Bool.false_ne_true
 | _=>cases y <;> exact absurd (show false=true from hs) Bool.false_ne_true
theorem mSz:OpR X (compareOp .Lt) (rI0 fun i j => .bl (decide (i<j))):=opB0 fun _ _ _ _ _ _ _ q=>lt_int q
theorem mTz:OpR X (compareOp .LtE) (rI0 fun i j => .bl (decide (i≤j))):=opB0 fun _ _ _ _ _ _ _ q=>le_int q
theorem gQz:OpR X (compareOp .Gt) (rI0 fun i j => .bl (decide (j<i))):=opB0 fun _ _ _ _ _ _ _ q=>gt_int q
theorem BXz:OpR X (compareOp .GtE) (rI0 fun i j => .bl (decide (j≤i))):=opB0 fun _ _ _ _ _ _ _ q=>ge_int q
theorem op_isN:OpR X (compareOp .Is) (fun x y H Q=>y = .non∧Q (.bl (decide (x = .non))) H):=by
 intro pins s σ H x y v u Q I rx ry h;obtain⟨rfl,q⟩:=h;cases ry;refine is_none_gen (dI I q ?_);cases x <;> first
  | (cases rx;rfl)
  | (obtain⟨t,rfl⟩:=rx;rfl)
theorem nomark (b:Expr) {op:CmpOp} (h:op≠.In:=by decide) (h2:op≠.NotIn:=by decide):behindInMarks op b=false:=by
 have e1:(op == CmpOp.In)=false:=by cases op <;> first | rfl | exact absurd rfl h
 have e2:(op == CmpOp.NotIn)=false:=by cases op <;> first | rfl | exact absurd rfl h2
 cases b <;> simp [behindInMarks,e1,e2]
theorem pO {op:CmpOp} {r:R2} (ho:OpR X (compareOp op) r) (ha:PE X a ta) (hb:PE X b tb) (hm:behindInMarks op b=false):PE X (.Compare a [op] [b] pos) (tOp r ta tb):=by
 intro pins s σ H Q I h;exact wpAny_Compare1 (binT ha hb I h fun v u s2 x y H2 I2 rx ry q=>ho pins s2 σ H2 x y v u Q I2 rx ry q) hm
def tTest (t:TE):TT:=fun σ H Q=>t σ H fun x H'=>IB Q x H'
theorem aY {op:CmpOp} {r:R2} (ho:OpR X (compareOp op) r) (ha:PE X a ta) (hb:PE X b tb) (hm:behindInMarks op b=false):PT X (.Compare a [op] [b] pos) (tTest (tOp r ta tb)):=by
 intro pins s σ H Q I h
 refine wpAny_isTrue_Compare1 (thn (ha pins s σ H _ I h) fun v s1 ⟨x,H1,I1,r1,q1⟩=>thn (hb pins s1 σ H1 _ I1 q1) fun u s2 ⟨y,H2,I2,r2,q2⟩ =>
  thn (ho pins s2 σ H2 x y v u _ I2 r1 r2 q2) fun c s3 ⟨z,H3,I3,r3,k,e,q3⟩=>?_) hm
 subst e;cases r3;exact wpAny_truthy_bool ⟨H3,I3,q3⟩
def tChain (r r':R2) (ta tb tc:TE):TE:=fun σ H Q=>ta σ H fun x H1=>tb σ H1 fun y H2=>r x y H2 fun z H3=>∃k,z = .bl k∧
 (if k=true then tc σ H3 fun w' H4=>r' y w' H4 Q else Q (.bl false) H3)
theorem jYz {op op':CmpOp} {r r':R2} (ho:OpR X (compareOp op) r) (ho':OpR X (compareOp op') r') (ha:PE X a ta) (hb:PE X b tb) (hc:PE X c tc)
  (hm:lastMarks [op,op'] [b,c]=false:=by with_unfolding_all rfl):PE X (.Compare a [op,op'] [b,c] pos) (tChain r r' ta tb tc):=by
 intro pins s σ H Q I h
 refine Compare_chain (thn (ha pins s σ H _ I h) fun v s1 ⟨x,H1,I1,r1,q1⟩=>chain_link (thn (hb pins s1 σ H1 _ I1 q1) fun u s2 ⟨y,H2,I2,r2,q2⟩ =>
  thn (ho pins s2 σ H2 x y v u _ I2 r1 r2 q2) fun d s3 ⟨z,H3,I3,r3,k,e,q3⟩=>?_)) hm
 subst e;cases r3;refine wpAny_truthy_bool ?_;cases k with
 | false=>exact ite_ff ⟨.bl false,H3,I3,rfl,q3⟩
 | true=>exact ite_tt (chain_last (thn (hc pins s3 σ H3 _ I3 q3) fun w' s4 ⟨z',H4,I4,r4,q4⟩=>ho' pins s4 σ H4 y z' u w' Q I4 r2 r4 q4))
theorem line63:(sizeLine:Nat)<2 ^ 63:=by rw [sizeLine_eq];decide
theorem dN:OpR X (binaryOp .Add) (fun x y H Q=>∃i j,x = .str i∧y = .str j∧i.length+j.length≤sizeLine∧Q (.str (i++j)) H):=by
 intro pins s σ H x y v u Q I rx ry h;obtain⟨i,j,rfl,rfl,hz,q⟩:=h;obtain⟨t,rfl⟩:=rx;obtain⟨t',rfl⟩:=ry;exact add_str (fun t' tk=>⟨.str (i++j),H,I.tok _,⟨_,rfl⟩,q⟩) hz
theorem vals1 {x:V} {us:List Value} (r:Vals [x] us):∃u,us=[u]∧RelV x u:=by
 cases r with
 | cons r1 r2=>cases r2;exact⟨_,rfl,r1⟩
theorem vals2 {x y:V} {us:List Value} (r:Vals [x,y] us):∃u w',us=[u,w']∧RelV x u∧RelV y w':=by
 cases r with
 | cons r1 r2 =>
  cases r2 with
  | cons r3 r4=>cases r4;exact⟨_,_,rfl,r1,r3⟩
theorem qQ:hKz X (.builtin "abs") (fun xs H Q=>∃i,xs=[.int i]∧Q (.int (if i<0 then -i else i)) H):=by
 intro pins s σ H xs us Q I r h;obtain⟨i,rfl,q⟩:=h;obtain⟨u,rfl,t,rfl⟩:=vals1 r;exact call_abs_int fun u tk=>⟨.int (if i<0 then -i else i),H,I.tok _,⟨_,rfl⟩,q⟩
theorem nG:hKz X (.type "str") (fun xs H Q=>∃i,xs=[.int i]∧i.natAbs.log2<1920∧Q (.str (toString i)) H):=by
 intro pins s σ H xs us Q I r h;obtain⟨i,rfl,hz,q⟩:=h;obtain⟨u,rfl,t,rfl⟩:=vals1 r;exact PySem.P.str_of_int hz ⟨.str _,H,I.tok _,⟨_,rfl⟩,q⟩
theorem sYz:hKz X (.builtin "ord") (fun xs H Q=>∃x,xs=[.str x]∧x.length=1∧Q (.int (x.cps.getD 0 0:Nat)) H):=by
 intro pins s σ H xs us Q I r h;obtain⟨x,rfl,hz,q⟩:=h;obtain⟨u,rfl,t,rfl⟩:=vals1 r;exact ord_of_one hz ⟨.int _,H,I.tok _,⟨_,rfl⟩,q⟩
end
end L2
namespace L2
open PySem PySem.Spec PyProof.Rows
structure ObjM (h:Heap) (x dx C:Addr) (mA:Str→Option Value):Prop where
 obj:h.get? x=some (W.instObj C dx)
 ns:h.Ns1 dx mA
 ne:dx≠x
theorem wVz {h:Heap} {dx:Addr} {mA:Str→Option Value} (n:h.Ns1 dx mA):∃od,h.get? dx=some od∧∀name,W.lookIn name od=some (mA name):=by
 obtain⟨o,es,ep,ho,hd,hk,_,hm⟩:=n;refine⟨o,ho,fun name=>?_⟩;have e:=hm name;unfold nsFind findBy at e;rw [← Array.find?_toList] at e;unfold W.lookIn;rw [hd];dsimp only;split
 ·rename_i y q
  rw [q] at e;exact congrArg some e
 ·rename_i q
  rw [q] at e;have a:es.toList.any (·.refKey)=false:=by
   rw [List.any_eq_false];intro y hy;obtain⟨z,t,hkey⟩:=hk y (Array.mem_toList_iff.mp hy);simp [DictEntry.refKey,hkey]
  have a':¬ es.toList.any (·.refKey)=true:=by rw [a];exact Bool.false_ne_true
  rw [if_neg a'];exact congrArg some e
theorem ObjM.look {h:Heap} {x dx C:Addr} {mA:Str→Option Value} (I:ObjM h x dx C mA):∃od,PySem.W.InstAt h x (W.instObj C dx) C (some od)∧∀name,W.lookIn name od=some (mA name) :=
 let ⟨od,ho,hl⟩:=wVz I.ns
 ⟨od,⟨I.obj,rfl,rfl,ho⟩,hl⟩
section
variable {prog:Program} {w:World} {A:Around} {E:Value→Shared→Prop} {s:Shared} {K:W.Frag} {x dx C f:Addr} {mA:Str→Option Value} {name:Str} {v:Value}
theorem CLz {expr:Bool} {Q:Value→Shared→Prop} (X:K.In s.heap) (I:ObjM s.heap x dx C mA) (hg:W.plainGet K C name=true) (hh:W.hasDictIn K C=true)
  (ha:W.findIn K (.ref C) name=some none) (hv:mA name=some v) (hv':W.handedIn v=true) (h:Q v {s with toks:=s.toks+1}) :
  wpAny (model prog w) A (getAttr (.ref x) name expr) Q E s:=by
 obtain⟨od,J,hl⟩:=I.look;exact W.get_value X J (W.plainGet_of hg).1 (W.findObj_own hh ha rfl (by rw [hl,hv])) hv' h
theorem zUz {pl:Sem Bool} {Q:Value×List Value→Shared→Prop} (X:K.In s.heap) (I:ObjM s.heap x dx C mA) (hg:W.plainGet K C name=true)
  (hf:W.findIn K (.ref C) name=some (some (.ref f))) (ht:W.isFn K (.ref f)=true) (hv:mA name=none) (h:Q (.ref f,[.ref x]) s) :
  wpAny (model prog w) A (getMethod (.ref x) name pl) Q E s:=by
 obtain⟨od,J,hl⟩:=I.look;exact W.method_fn X J (W.plainGet_of hg).1 (W.plainGet_of hg).2 hf (beq_iff_eq.mp ht) (by show (W.lookIn name od).map (·.isSome)=some false;rw [hl,hv];rfl) h
theorem BEz {ns:List Str} {Q:Unit→Shared→Prop} (X:K.In s.heap) (I:ObjM s.heap x dx C mA)
  (hs:W.findIn K (.ref C) "__setattr__" = some (some (.builtin "object.__setattr__"))) (hp:W.plainOver K C=true) (ht:W.takerIn K C name=some none) (hh:W.hasDictIn K C=true)
  (hw:PySem.Within mA ns) (hsz:ns.length≤sizeLine)
  (h:∀h',ObjM h' x dx C (fun y=>if y=name then some v else mA y)→Heap.SameBut dx s.heap h'→Q () {s with heap:=h',toks:=s.toks+2}) :
  wpAny (model prog w) A (setAttr (.ref x) name v) Q E s:=by
 obtain⟨od,J,hl⟩:=I.look;refine W.set_plain X J hs (W.osa_open (s:={s with toks:=s.toks+1}) (r:=none) X J hp ht fun b=>?_);obtain⟨cd,hc,hd'⟩:=W.any_some hh;have hx:s.heap.get? x=some ⟨.ref C,some dx,.plain,#[]⟩:=I.obj;refine wpAny_bind (wpAny_pure (wpAny_bind (wpAny_bind (wpAny_loadPart hx (wpAny_bind (PySem.W.Looks.here (s:={s with toks:=s.toks+1}) (W.looks_clsIn X hc) ?_))))));rw [hd'];refine wpAny_pure (a:=some dx) (wpAny_bind (wpAny_pure (wpAny_bind ?_)));refine wpAny_nsSet1 (s:={s with toks:=s.toks+1}) I.ns fun h' hn2 hs2=>?_;obtain⟨oD,esD,epD,hoD,hdD,hcD⟩:=hn2.count (PySem.Within.cons name v hw);refine wpAny_bind (wpAny_lookBehind hoD (by rw [hdD];exact pastItsLine_dict (Nat.le_trans hcD (by rw [List.length_cons];omega))) ?_);exact wpAny_pure (h _ ⟨(hs2.2 _ (Ne.symm I.ne)).trans I.obj,hn2,I.ne⟩ hs2)
theorem zLz {R:Result→Shared→Prop} {vs:List Value} {kw:List (Str×Value)} (X:K.In s.heap) (hm:W.makesIn K C=true)
  (hi:W.findIn K (.ref C) "__init__" = some (some (.ref f))) (hf:W.typeIn K (.ref f)=some (.type "function"))
  (h:codeAny (model prog w) (A.under (.builtin "type.__call__" ⟨.ref C::vs,kw⟩)) (.call (.ref f) ⟨.ref (s.heap.objs.size+1)::vs,kw⟩) (PySem.W.InitBack (s.heap.objs.size+1) R)
   {s with heap:=(s.heap.push W.emptyDict).push (W.instObj C s.heap.objs.size)}) :
  codeAny (model prog w) A (.call (.ref C) ⟨vs,kw⟩) R s:=by
 obtain⟨hh,g,d,t,os⟩:=s;exact W.make_core (W.makes_of X hm) (W.looks_findIn X hi) (fun self=>W.bind_fn X self hf) (.inl rfl) h
end
def putF (f:Str) (v:V):List (Str×V)→List (Str×V)
 | []=>[(f,v)]
 | (g,x)::r=>if g=f then (g,v)::r else (g,x)::putF f v r
theorem wB (f g:Str) (v:V):∀fs:List (Str×V),(putF f v fs).lookup g=if g=f then some v else fs.lookup g
 | []=>by
  show List.lookup g [(f,v)]=_
  by_cases h:g=f
  ·have hb:(g == f)=true:=beq_iff_eq.mpr h
   simp only [List.lookup,hb,if_pos h]
  ·have hb:(g == f)=false:=beq_eq_false_iff_ne.mpr h
   simp only [List.lookup,hb,if_neg h]
 | (k,x)::r=>by
  have ih:=wB f g v r;rw [show putF f v ((k,x)::r)=(if k=f then (k,v)::r else (k,x)::putF f v r) from rfl]
  by_cases hk:k=f
  ·rw [if_pos hk]
   by_cases h:g=k
   ·have hb:(g == k)=true:=beq_iff_eq.mpr h
    simp only [List.lookup,hb,if_pos (h.trans hk)]
   ·have hb:(g == k)=false:=beq_eq_false_iff_ne.mpr h
    simp only [List.lookup,hb,if_neg (fun e:g=f=>h (e.trans hk.symm))]
  ·rw [if_neg hk]
   by_cases h:g=k
   ·have hb:(g == k)=true:=beq_iff_eq.mpr h
    simp only [List.lookup,hb,if_neg (fun e:g=f=>hk (h.symm.trans e))]
   ·have hb:(g == k)=false:=beq_eq_false_iff_ne.mpr h
    simp only [List.lookup,hb];exact ih
theorem sK (f:Str) (v:V):∀fs:List (Str×V),f∈(putF f v fs).map (·.1)∧∀g,g∈fs.map (·.1)→g∈(putF f v fs).map (·.1)
 | []=>⟨by simp [putF],fun g h=>by simp at h⟩
 | (k,x)::r=>by
  obtain⟨i1,i2⟩:=sK f v r;rw [show putF f v ((k,x)::r)=(if k=f then (k,v)::r else (k,x)::putF f v r) from rfl]
  by_cases hk:k=f
  ·rw [if_pos hk]
   subst hk;exact⟨by simp,fun g h=>by simpa using h⟩
  ·rw [if_neg hk]
   refine⟨?_,fun g h=>?_⟩
   ·rw [List.map_cons]
    exact List.mem_cons_of_mem _ i1
   ·rw [List.map_cons] at h ⊢
    rcases List.mem_cons.mp h with e | e
    ·exact List.mem_cons.mpr (.inl e)
    ·exact List.mem_cons_of_mem _ (i2 g e)
theorem fAz (f:Str) (v:V):∀fs:List (Str×V),(putF f v fs).length≤fs.length+1
 | []=>by simp [putF]
 | (k,x)::r=>by
  have ih:=fAz f v r;rw [show putF f v ((k,x)::r)=(if k=f then (k,v)::r else (k,x)::putF f v r) from rfl]
  by_cases hk:k=f
  ·rw [if_pos hk,List.length_cons,List.length_cons];omega
  ·rw [if_neg hk,List.length_cons,List.length_cons];omega
theorem RelO.some_of {v:V} {o:Option Value} (r:RelO (some v) o):∃u,o=some u∧RelV v u:=by
 cases o with
 | none=>exact (show False from r).elim
 | some u=>exact⟨u,rfl,r⟩
theorem RelO.none_of {o:Option Value} (r:RelO none o):o=none:=by
 cases o with
 | none=>rfl
 | some u=>exact (show False from r).elim
theorem nOz {v:V} {u:Value} (r:RelV v u):W.handedIn u=true:=by
 cases v with
 | non=>cases (show u=Value.none from r);rfl
 | bl b=>cases (show u=Value.bool b from r);rfl
 | int i=>obtain⟨t,e⟩:=(show ∃t,u=Value.int i t from r);cases e;rfl
 | str x=>obtain⟨t,e⟩:=(show ∃t,u=Value.str x t from r);cases e;rfl
 | byt b=>obtain⟨t,e⟩:=(show ∃t,u=Value.bytes b t from r);cases e;rfl
 | flt b=>obtain⟨t,e⟩:=(show ∃t,u=Value.float b t from r);cases e;rfl
 | ref a=>cases (show u=Value.ref a from r);rfl
 | ty n=>cases (show u=Value.type n from r);rfl
section
variable {P:Program} {w:World} {H H':Hp} {h h':Heap} {a C dx:Addr} {fs fs':List (Str×V)}
theorem pZz (hok:HOk P w H h) (e:H a=some (.ins C dx fs)):∃mA,ObjM h a dx C mA∧(∀f,RelO (fs.lookup f) (mA f))∧PySem.Within mA (fs.map (·.1))∧fs.length≤1000∧H dx=some (.own a):=by
 obtain⟨d,z,ne,ob,mA,n,r,q⟩:=(show eY P w H h a (.ins C dx fs) from hok a _ e);exact⟨mA,⟨ob,n,ne⟩,r,q,z,d⟩
end
structure Cls (K:W.Frag) (C:Addr):Prop where
 pg:W.plainGet K C Str.empty=true
 hd:W.hasDictIn K C=true
 po:W.plainOver K C=true
 sa:W.findIn K (.ref C) "__setattr__" = some (some (.builtin "object.__setattr__"))
theorem Cls.get {K:W.Frag} {C:Addr} (c:Cls K C) (f:Str):W.plainGet K C f=true:=c.pg
def bF (K:W.Frag) (C:Addr) (f:Str):Prop:=W.findIn K (.ref C) f=some none
theorem bF.taker {K:W.Frag} {C:Addr} {f:Str} (n:bF K C f):W.takerIn K C f=some none:=by
 unfold W.takerIn;rw [show W.findIn K (.ref C) f=some none from n];rfl
structure Meth (K:W.Frag) (C:Addr) (m:Str) (f:Addr):Prop where
 at_:W.findIn K (.ref C) m=some (some (.ref f))
 fn:W.isFn K (.ref f)=true
 kp:W.keepIn K (.ref f)=true
section
variable {X:Cx} {pins:List (Addr×Obj)} {σ : St} {H:Hp} {s:Shared} {a C dx:Addr} {fs:List (Str×V)} {f:Str} {v:V} {A:Around} {E:Value→Shared→Prop}
theorem uLz {b:Bool} {Q:Value→Shared→Prop} (I:Inv X pins σ H s) (e:H a=some (.ins C dx fs)) (c:Cls X.K C) (n:bF X.K C f) (l:fs.lookup f=some v)
  (h:∀u s',Inv X pins σ H s'→RelV v u→Q u s'):wpAny (model X.prog X.w) A (getAttr (.ref a) f b) Q E s:=by
 obtain⟨mA,O,r,_,_,_⟩:=pZz I.hok e;obtain⟨u,hu,ru⟩:=RelO.some_of (v:=v) (o:=mA f) (by rw [← l];exact r f);exact CLz I.kIn O (c.get f) c.hd n hu (nOz ru) (h u _ (I.tok _) ru)
theorem aAz {m:Str} {g:Addr} {pl:Sem Bool} {Q:Value×List Value→Shared→Prop} (I:Inv X pins σ H s) (e:H a=some (.ins C dx fs)) (c:Cls X.K C) (k:Meth X.K C m g) (l:fs.lookup m=none)
  (h:Q (.ref g,[.ref a]) s):wpAny (model X.prog X.w) A (getMethod (.ref a) m pl) Q E s:=by
 obtain⟨mA,O,r,_,_,_⟩:=pZz I.hok e;have hn:mA m=none:=RelO.none_of (by rw [← l];exact r m);exact zUz I.kIn O (c.get m) k.at_ k.fn hn h
theorem tRz {y:V} {u:Value} {Q:Unit→Shared→Prop} (I:Inv X pins σ H s) (e:H a=some (.ins C dx fs)) (c:Cls X.K C) (n:bF X.K C f) (hl:fs.length<1000) (ry:RelV y u)
  (h:∀s',Inv X pins σ (upd H a (.ins C dx (putF f y fs))) s'→Q () s'):wpAny (model X.prog X.w) A (setAttr (.ref a) f u) Q E s:=by
 obtain⟨mA,O,r,wi,_,ho⟩:=pZz I.hok e;have hz:(fs.map (·.1)).length≤sizeLine:=by rw [List.length_map,sizeLine_eq];omega
 refine BEz I.kIn O c.sa c.po n.taker c.hd wi hz fun h' O' sb=>h _ ?_;have hd:∃o,h'.get? dx=some o:=let ⟨o,_,_,e',_⟩:=O'.ns;⟨o,e'⟩;refine I.write (x:=a) (e:=dx) (by rw [e];exact True.intro) (.inr ho) (fun b q hb z=>(sb.2 b hb).trans z) hd ?_;refine⟨by rw [aO O.ne];exact ho,?_,O.ne,O'.obj,_,O'.ns,fun g=>?_,fun g hg=>?_⟩
 ·have:=fAz f y fs;omega
 ·show RelO ((putF f y fs).lookup g) (if g=f then some u else mA g)
  rw [wB]
  by_cases q:g=f
  ·rw [if_pos q,if_pos q];exact ry
  ·rw [if_neg q,if_neg q];exact r g
 ·by_cases q:g=f
  ·rw [q];exact (sK f y fs).1
  ·refine (sK f y fs).2 g (wi g fun z=>hg ?_)
   show (if g=f then some u else mA g)=none;rw [if_neg q];exact z
theorem Inv.made (I:Inv X pins σ H s):Inv X pins σ (upd (upd H s.heap.objs.size (.own (s.heap.objs.size+1))) (s.heap.objs.size+1) (.ins C s.heap.objs.size []))
  {s with heap:=(s.heap.push W.emptyDict).push (W.instObj C s.heap.objs.size)}:=by
 have e1:(s.heap.push W.emptyDict).get? s.heap.objs.size=some W.emptyDict:=Heap.get?_push_size s.heap rfl;have e2:((s.heap.push W.emptyDict).push (W.instObj C s.heap.objs.size)).get? (s.heap.objs.size+1)=some (W.instObj C s.heap.objs.size):=by
  have:=Heap.get?_push_size (s.heap.push W.emptyDict) (o:=W.instObj C s.heap.objs.size) rfl
  rwa [Heap.size_push] at this
 have e3:(s.heap.push W.emptyDict).Ns s.heap.objs.size (fun _=>none):=⟨W.emptyDict,#[],_,e1,rfl,(fun e he=>absurd he (by simp)),fun _=>rfl⟩;have I1:=I.laid (a:=s.heap.objs.size) (o := .own (s.heap.objs.size+1)) (h':=s.heap.push W.emptyDict) (t':=s.toks) (fun b u q=>Heap.get?_push_of_some _ q) (Nat.le_refl _) ⟨_,e1⟩;refine I1.laid (a:=s.heap.objs.size+1) (o := .ins C s.heap.objs.size []) (t':=s.toks) (fun b u q=>Heap.get?_push_of_some _ q) (Nat.le_of_eq (Heap.size_push _ _)) ?_;have ne:s.heap.objs.size≠s.heap.objs.size+1:=Nat.ne_of_lt (Nat.lt_succ_self _);refine⟨by rw [aO ne,aC],Nat.zero_le _,ne,e2,fun _=>none,(Heap.Ns1.of_empty e3).at fun o q=>Heap.get?_push_of_some _ q,fun _=>True.intro,fun y hy=>absurd rfl hy⟩
theorem yQz {prog:Program} {w:World} {env:Env} {e:Expr} {f:Str} {pos:Pos} {s:Shared} {Q:Value→Shared→Prop} (hb:attributeBase e f env (eval e env)=eval e env)
  (h:wpAny (model prog w) A (eval e env) (fun o s₁ => wpAny (model prog w) A (getAttr o f true) Q E s₁) E s):wpAny (model prog w) A (eval (.Attribute e f pos) env) Q E s :=
 Attribute_any_ h (by rw [arm_eval_Attribute,hb])
end
inductive IFld (K:W.Frag) (f:Str) (Q:VK) (x:V) (H1:Hp):Prop
 | mk (a C dx fs v) (_:x = .ref a) (_:H1 a=some (.ins C dx fs)) (_:Cls K C) (_:bF K C f) (_:fs.lookup f=some v) (_:Q v H1):IFld K f Q x H1
def tFld (K:W.Frag) (ta:TE) (f:Str):TE:=fun σ H Q=>ta σ H fun x H1=>IFld K f Q x H1
inductive JFld (K:W.Frag) (f:Str) (k:Hp→Prop) (y x:V) (H2:Hp):Prop
 | mk (a C dx fs) (_:x = .ref a) (_:H2 a=some (.ins C dx fs)) (_:Cls K C) (_:bF K C f) (_:fs.length<1000) (_:k (upd H2 a (.ins C dx (putF f y fs)))):JFld K f k y x H2
def sFld (K:W.Frag) (ta tv:TE) (f:Str):TS:=fun D σ H=>tv σ H fun y H1=>ta σ H1 fun x H2=>JFld K f (D.nx σ) y x H2
section
variable {X:Cx} {o e value:Expr} {f:Str} {pos pos' tpos:Pos} {ta tv:TE}
theorem aM (he:PE X e ta) (hb:attributeBase e f X.env (eval e X.env)=eval e X.env):PE X (.Attribute e f pos) (tFld X.K ta f):=by
 intro pins s σ H Q I h;refine yQz hb (thn (he pins s σ H _ I h) fun u s1 ⟨x,H1,I1,rx,a,C,dx,fs,v,ex,ea,c,n,l,q⟩=>?_);subst ex;obtain rfl:u=Value.ref a:=rx;exact uLz I1 ea c n l fun u' s2 I2 ru=>⟨v,H1,I2,ru,q⟩
theorem bR (ha:PE X o ta) (hv:PE X value tv) (hs:swapsWith value (some (.Attribute o f pos')) pos.line X.env=pure false):PS X (.Assign [.Attribute o f pos'] value pos) (sFld X.K ta tv f):=by
 intro pins s σ H D I h;refine plainObj_wpAny_Assign_Attribute (thn (hv pins s σ H _ I h) fun u s1 ⟨y,H1,I1,ry,q⟩=>thn (ha pins s1 σ H1 _ I1 q) fun ov s2 ⟨x,H2,I2,rx,a,C,dx,fs,ex,ea,c,n,l,q2⟩=>?_) hs;subst ex;obtain rfl:ov=Value.ref a:=rx;exact tRz I2 ea c n l ry fun s3 I3=>⟨σ,_,I3,q2⟩
theorem B9z {pl:Sem Bool} {m:Str} {apos:Pos} {args:List Expr} {pins:List (Addr×Obj)} {s:Shared} {σ : St} {H:Hp} {Q:Value→Shared→Prop} {te:TE} (he:PE X e te) (I:Inv X pins σ H s)
  (h:te σ H fun x H1=>∃a C dx fs g,x = .ref a∧H1 a=some (.ins C dx fs)∧Cls X.K C∧Meth X.K C m g∧fs.lookup m=none∧
   ∀s1,Inv X pins σ H1 s1→wpAny (model X.prog X.w) X.A (callWith pos (.ref g) [.ref a] (backTo pos (starEach args X.env)) (backToKw pos (keywordEach [] X.env))) Q X.xe s1)
  (ht:eval (.Call (.Attribute e m apos) args [] pos) X.env=(do
   let ov ← eval e X.env
   standAt apos.atName
   let (f,first) ← holding [ov] (getMethod ov m pl)
   callWith pos f first (backTo pos (starEach args X.env)) (backToKw pos (keywordEach [] X.env)))) :
  wpAny (model X.prog X.w) X.A (eval (.Call (.Attribute e m apos) args [] pos) X.env) Q X.xe s:=by
 refine W.methodCall_KW (pl:=pl) (thn (he pins s σ H _ I h) fun u s1 ⟨x,H1,I1,rx,a,C,dx,fs,g,ex,ea,c,k,l,q⟩=>?_) ht;subst ex;obtain rfl:u=Value.ref a:=rx;exact aAz I1 ea c k l (q s1 I1)
end
section
variable {X:Cx} {pins:List (Addr×Obj)} {σ : St} {H:Hp} {s:Shared} {A:Around} {E:Value→Shared→Prop} {Q:Value→Shared→Prop} {c:Value} {b:Bool}
end
end L2
namespace L2
open PySem PySem.Spec PyProof.Rows
structure Room (k:Nat) (A:Around):Prop where
 hd:A.handled=none
 dp:A.depth+3*k+5<recursionLimit
 un:A.units+16*k+200<cLine
theorem Room.mono {j k:Nat} {A:Around} (r:Room k A) (h:j≤k):Room j A:=⟨r.hd,by have:=r.dp;omega,by have:=r.un;omega⟩
theorem Room.deeper {k:Nat} {A:Around} (r:Room (k+1) A) (env:Env):Room k (A.deeper env) :=
 ⟨r.hd,by have:=r.dp;show A.depth+1+3*k+5<_;omega,by have:=r.un;show A.units+3+16*k+200<_;omega⟩
theorem uEz {A:Around} {C:Addr} {us:List Value} {kw:List (Str×Value)}:(A.under (.builtin "type.__call__" ⟨.ref C::us,kw⟩)).depth=A.depth+1:=by
 first | rfl | simp [Around.under,Code.weight,Code.isCreation,Code.isGuard,Code.isCaller,Code.frames,Code.isFrame,guardIds]
theorem uDz {A:Around} {C:Addr} {us:List Value} {kw:List (Str×Value)}:(A.under (.builtin "type.__call__" ⟨.ref C::us,kw⟩)).units=A.units+1:=by
 first | rfl | simp [Around.under,Code.cUnits,Code.frames,Code.isFrame]
theorem Room.make {k:Nat} {A:Around} (r:Room (k+1) A) (C:Addr) (us:List Value) (kw:List (Str×Value)):Room k (A.under (.builtin "type.__call__" ⟨.ref C::us,kw⟩)) :=
 ⟨r.hd,by have:=r.dp;rw [uEz];omega,by have:=r.un;rw [uDz];omega⟩
theorem Room.depth {k:Nat} {A:Around} (r:Room k A):A.depth<recursionLimit:=by have:=r.dp;omega
theorem Room.units {k:Nat} {A:Around} (r:Room k A):A.units+64<cLine:=by have:=r.un;omega
def tNil:TA:=fun _ H Q=>Q [] H
def tCons (ta:TE) (tr:TA):TA:=fun σ H Q=>ta σ H fun x H1=>tr σ H1 fun xs H2=>Q (x::xs) H2
section
variable {X:Cx} {e:Expr} {es:List Expr} {te:TE} {t:TA} {pos:Pos}
theorem aD:PA X [] tNil:=fun _ _ _ _ H Q I h=>Calls.spliced_nil ⟨[],H,I,.nil,h⟩
theorem aA (ha:PE X e te) (hr:PA X es t) (hs:starEach (e::es) X.env=(false,eval e X.env)::starEach es X.env:=by rfl):PA X (e::es) (tCons te t):=by
 intro pos pins s σ H Q I h;rw [hs];show wpAny _ _ (spliced ((false,eval e X.env)::backTo pos (starEach es X.env))) _ _ s;refine Calls.spliced_cons (thn (ha pins s σ H _ I h) fun u s1 ⟨x,H1,I1,r1,q1⟩=>?_);exact thn (hr pos pins s1 σ H1 _ I1 q1) fun us s2 ⟨xs,H2,I2,r2,q2⟩=>⟨x::xs,H2,I2,.cons r1 r2,q2⟩
def tTup (t:TA):TE:=fun σ H Q=>t σ H fun xs H1=>xs.length≤sizeLine∧∀p,H1 p=none→Q (.ref p) (upd H1 p (.tup xs))
def tLst (t:TA):TE:=fun σ H Q=>t σ H fun xs H1=>xs.length≤sizeLine∧∀p,H1 p=none→Q (.ref p) (upd H1 p (.lst xs))
theorem ANz {x1} (h:PA X es t):PE X (.Tuple es x1 pos) (tTup t):=by
 intro pins s σ H Q I hq;refine wpAny_Tuple_spliced (thn (h pos pins s σ H _ I hq) fun us s1 ⟨xs,H1,I1,r,z,q⟩=>⟨by rw [← r.length];exact z,?_⟩);have hf:H1 s1.heap.objs.size=none:=I1.hok.fresh (Nat.le_refl _);refine⟨.ref s1.heap.objs.size,upd H1 s1.heap.objs.size (.tup xs),I1.laid (t':=s1.toks) (fun b u e=>Heap.get?_push_of_some _ e) (Nat.le_refl _) ?_,rfl,q _ hf⟩;exact⟨z,us,r,⟨_,Heap.get?_push_size _ rfl,rfl,_,rfl⟩⟩
theorem dM (h:PA X es t):PE X (.List es pos) (tLst t):=by
 intro pins s σ H Q I hq;refine wpAny_List_spliced (thn (h pos pins s σ H _ I hq) fun us s1 ⟨xs,H1,I1,r,z,q⟩=>⟨by rw [← r.length];exact z,?_⟩);have hf:H1 s1.heap.objs.size=none:=I1.hok.fresh (Nat.le_refl _);refine⟨.ref s1.heap.objs.size,upd H1 s1.heap.objs.size (.lst xs),I1.laid (t':=s1.toks) (fun b u e=>Heap.get?_push_of_some _ e) (Nat.le_refl _) ?_,rfl,q _ hf⟩;exact⟨z,us,0,r,Heap.get?_push_size _ rfl⟩
end
abbrev Sp:=List V→Hp→VK→XK→Prop
abbrev CXT:=List Env→Hp→Shared→XK→Value→Shared→Prop
structure Env0 (P:Program) (w:World) (K:W.Frag) (mg:Str→Option Value) (base:Heap) (A:Around) (outer:List Env) (s:Shared) (H:Hp):Prop where
 frames:A.frames=some outer
 mod:Mod K mg base
 bs:∀b o,base.get? b=some o→s.heap.get? b=some o∧H b=none
 bsz:base.objs.size≤s.heap.objs.size
 funs:s.heap.FunFrames base outer
 frf:∀b∈frs outer,H b=none
 hok:HOk P w H s.heap
 bare:AllBare s.gens
def CE (outer:List Env) (P:Program) (w:World) (H:Hp) (s:Shared) (Q:VK) (u:Value) (s':Shared):Prop :=
 ∃v H',s'.os=s.os∧AllBare s'.gens∧Un (frs outer) [] H H' s.heap s'.heap∧HOk P w H' s'.heap∧RelV v u∧Q v H'
def CR (CX:CXT) (outer:List Env) (P:Program) (w:World) (H:Hp) (s:Shared) (Q:VK) (E:XK) (r:Result) (s':Shared):Prop :=
 match r with
 | .ok (.ret u)=>CE outer P w H s Q u s'
 | .ok _=>False
 | .error e=>CX outer H s E e s'
structure FnOk (P:Program) (w:World) (K:W.Frag) (mg:Str→Option Value) (base:Heap) (CX:CXT) (k:Nat) (f:Addr) (fd:FuncData) (ps:List Str) (sp:Sp):Prop where
 len:∀vs H Q E,sp vs H Q E→vs.length=ps.length
 run:∀(A:Around) (outer:List Env) (s:Shared) (H:Hp) (args:Args) (us:List Value) (vs:List V) (Q:VK) (E:XK),Room k A→Env0 P w K mg base A outer s H→BindsTo s fd args (ps.zip us)→Vals vs us→sp vs H Q E→
  codeAny (model P w) A (.call (.ref f) args) (CR CX outer P w H s Q E) s
theorem Env0.make {P:Program} {w:World} {K:W.Frag} {mg:Str→Option Value} {base:Heap} {A:Around} {outer:List Env} {s:Shared} {H:Hp} (e:Env0 P w K mg base A outer s H) (C:Addr) (us:List Value) (kw:List (Str×Value)) :
  Env0 P w K mg base (A.under (.builtin "type.__call__" ⟨.ref C::us,kw⟩)) outer s H:=⟨by first | exact e.frames | (simpa [Around.under,Code.envs,Code.isFrame,pushEnvs] using e.frames),e.mod,e.bs,e.bsz,e.funs,e.frf,e.hok,e.bare⟩
section
variable {X:Cx} {pins:List (Addr×Obj)} {σ : St} {H:Hp} {s s':Shared}
theorem Inv.env0 (I:Inv X pins σ H s):Env0 X.prog X.w X.K X.mg X.base X.A X.stack s H :=
 ⟨I.ok.frames,I.ok.mod,I.bs,Nat.le_trans I.ok.bsz I.sz,I.stack,I.stkFree,I.hok,I.bare⟩
theorem Inv.after {Q:VK} {u:Value} (I:Inv X pins σ H s) (h:CE X.stack X.prog X.w H s Q u s'):EP X pins σ Q u s':=by
 obtain⟨v,H',os,bare,un,hok,r,q⟩:=h;obtain⟨hh,g,d,t,os'⟩:=s';obtain rfl:os'=s.os:=os;exact⟨v,H',I.call (h':=hh) (g':=g) (d':=d) (t':=t) (ch:=[]) un hok bare (fun b z=>absurd z (by simp)),r,q⟩
end
def tCall (sp:Sp) (dvs:List V) (E:XK) (t:TA):TE:=fun σ H Q=>t σ H fun vs H1=>sp (vs++dvs) H1 Q E
inductive DDz (C:Addr) (m:Str) (k:Hp→Prop) (x:V) (H1:Hp):Prop
 | mk (a dx fs) (_:x = .ref a) (_:H1 a=some (.ins C dx fs)) (_:fs.lookup m=none) (_:k H1):DDz C m k x H1
def tMeth (C:Addr) (m:Str) (sp:Sp) (dvs:List V) (E:XK) (ta:TE) (t:TA):TE:=fun σ H Q=>ta σ H fun x H1=>DDz C m (fun H1=>t σ H1 fun vs H2=>sp (x::(vs++dvs)) H2 Q E) x H1
def tMake (C:Addr) (sp:Sp) (dvs:List V) (E:XK) (t:TA):TE:=fun σ H Q=>t σ H fun vs H1=>∀x dx,H1 x=none→H1 dx=none→dx≠x→
 sp (.ref x::(vs++dvs)) (upd (upd H1 dx (.own x)) x (.ins C dx [])) (fun v H2=>v = .non∧Q (.ref x) H2) E
def aOz (K:W.Frag) (fd:FuncData) (ps:List Str) (ds:List Value):Prop :=
 ∀(s:Shared) (us:List Value),K.In s.heap→(us++ds).length=ps.length→BindsTo s fd ⟨us,[]⟩ (ps.zip (us++ds))
theorem aOz.all {K:W.Frag} {fd:FuncData} {ps:List Str} (h:∀us:List Value,us.length=ps.length→bindArgs fd ⟨us,[]⟩=pure (ps.zip us)):aOz K fd ps []:=fun s us _ hl=>by
 rw [List.append_nil] at hl ⊢;exact .of_eq (h us hl)
def mD (CX:CXT) (X:Cx) (E:XK):Prop := ∀(pins:List (Addr×Obj)) (σ : St) (H:Hp) (s:Shared) (e:Value) (s':Shared),Inv X pins σ H s→CX X.stack H s E e s'→X.xe e s'
section
variable {X:Cx} {CX:CXT} {k:Nat} {f C:Addr} {fd:FuncData} {ps:List Str} {sp:Sp} {dvs:List V} {ds:List Value} {E:XK} {x m:Str} {p pos apos:Pos} {e o:Expr} {es:List Expr} {ta:TE} {t:TA}
theorem v4z {pins:List (Addr×Obj)} {σ : St} {H:Hp} {s:Shared} {Q:VK} {us:List Value} {vs:List V} (F:FnOk X.prog X.w X.K X.mg X.base CX k f fd ps sp) (hr:Room k X.A) (hb:aOz X.K fd ps ds) (hd:Vals dvs ds) (hx:mD CX X E)
  (I:Inv X pins σ H s) (r:Vals vs us) (h:sp (vs++dvs) H Q E):wpAny (model X.prog X.w) X.A (call (.ref f) us) (EP X pins σ Q) X.xe s:=by
 have r2:Vals (vs++dvs) (us++ds):=r.append hd;have hl:(us++ds).length=ps.length:=by rw [← r2.length];exact F.len _ _ _ _ h
 refine wpAny_call (codeAny_mono (F.run X.A X.stack s H ⟨us,[]⟩ (us++ds) (vs++dvs) Q E hr I.env0 (hb s us I.kIn hl) r2 h) fun r s' hq=>?_);cases r with
 | error e=>exact hx pins σ H s e s' I hq
 | ok fl =>
  cases fl with
  | ret u=>exact I.after hq
  | next=>exact False.elim hq
  | brk=>exact False.elim hq
  | cont=>exact False.elim hq
theorem BVz (F:FnOk X.prog X.w X.K X.mg X.base CX k f fd ps sp) (hr:Room k X.A) (hg:Gl X x) (hm:X.mg x=some (.ref f)) (hk:W.keepIn X.K (.ref f)=true) (hb:aOz X.K fd ps ds) (hd:Vals dvs ds) (hx:mD CX X E)
  (ha:PA X (e::es) t) (hdb:(x == ("__debug__" : Str))=false:=by decide) (he:starEach (e::es) X.env=(false,eval e X.env)::starEach es X.env:=by rfl) (hpl:(backTo pos (starEach es X.env)).any (·.1)=false:=by rfl) :
  PE X (.Call (.Name x p) (e::es) [] pos) (tCall sp dvs E t):=by
 intro pins s σ H Q I h;refine wpAny_Call_Name_kw (qA I hg hm ?_ hdb);refine W.callWith_K (h₀ := X.base) I.ok.mod.kin hk (thn (ha pos pins s σ H _ I h) fun us s1 ⟨vs,H1,I1,r,q⟩=>⟨I1.kIn,?_⟩) he hpl;exact v4z F hr hb hd hx I1 r q
theorem BQz {pl:Sem Bool} (he:PE X o ta) (c:Cls X.K C) (hm:Meth X.K C m f) (F:FnOk X.prog X.w X.K X.mg X.base CX k f fd ps sp) (hr:Room k X.A) (hb:aOz X.K fd ps ds) (hd:Vals dvs ds) (hx:mD CX X E) (ha:PA X (e::es) t)
  (hst:starEach (e::es) X.env=(false,eval e X.env)::starEach es X.env:=by rfl) (hpl:(backTo pos (starEach es X.env)).any (·.1)=false:=by rfl)
  (ht:eval (.Call (.Attribute o m apos) (e::es) [] pos) X.env=(do
   let ov ← eval o X.env
   standAt apos.atName
   let (f,first) ← holding [ov] (getMethod ov m pl)
   callWith pos f first (backTo pos (starEach (e::es) X.env)) (backToKw pos (keywordEach [] X.env))):=by rfl) :
  PE X (.Call (.Attribute o m apos) (e::es) [] pos) (tMeth C m sp dvs E ta t):=by
 intro pins s σ H Q I h;refine W.methodCall_KW (pl:=pl) (thn (he pins s σ H _ I h) fun u s1 ⟨x,H1,I1,rx,a,dx,fs,ex,ea,l,q⟩=>?_) ht;subst ex;obtain rfl:u=Value.ref a:=rx;refine aAz I1 ea c hm l ?_;refine W.callWith_K (first:=[.ref a]) (h₀ := X.base) I.ok.mod.kin hm.kp (thn (ha pos pins s1 σ H1 _ I1 q) fun us s2 ⟨vs,H2,I2,r,q2⟩=>⟨I2.kIn,?_⟩) hst hpl;exact v4z (us := .ref a::us) (vs := .ref a::vs) F hr hb hd hx I2 (.cons rfl r) q2
theorem y9z {pl:Sem Bool} (he:PE X o ta) (c:Cls X.K C) (hm:Meth X.K C m f) (F:FnOk X.prog X.w X.K X.mg X.base CX k f fd ps sp) (hr:Room k X.A) (hb:aOz X.K fd ps ds) (hd:Vals dvs ds) (hx:mD CX X E)
  (ht:eval (.Call (.Attribute o m apos) [] [] pos) X.env=(do
   let ov ← eval o X.env
   standAt apos.atName
   let (f,first) ← holding [ov] (getMethod ov m pl)
   callWith pos f first (backTo pos (starEach [] X.env)) (backToKw pos (keywordEach [] X.env))):=by rfl) :
  PE X (.Call (.Attribute o m apos) [] [] pos) (tMeth C m sp dvs E ta tNil):=by
 intro pins s σ H Q I h;refine W.methodCall_KW (pl:=pl) (thn (he pins s σ H _ I h) fun u s1 ⟨x,H1,I1,rx,a,dx,fs,ex,ea,l,q⟩=>?_) ht;subst ex;obtain rfl:u=Value.ref a:=rx;refine aAz I1 ea c hm l ?_;exact W.callWith_K0 (first:=[.ref a]) I1.kIn hm.kp (v4z (us:=[.ref a]) (vs:=[.ref a]) F hr hb hd hx I1 (.cons rfl .nil) q)
structure Mk (K:W.Frag) (C f:Addr):Prop where
 makes:W.makesIn K C=true
 init:W.findIn K (.ref C) "__init__" = some (some (.ref f))
 fn:W.isFn K (.ref f)=true
 kp:W.keepIn K (.ref C)=true
theorem rSz {pins:List (Addr×Obj)} {σ : St} {H:Hp} {s:Shared} {Q:VK} {us:List Value} {vs:List V} (M:Mk X.K C f) (F:FnOk X.prog X.w X.K X.mg X.base CX k f fd ps sp) (hr:Room (k+1) X.A) (hb:aOz X.K fd ps ds) (hd:Vals dvs ds)
  (hx:mD CX X E) (I:Inv X pins σ H s) (r:Vals vs us)
  (h:∀x dx,H x=none→H dx=none→dx≠x→sp (.ref x::(vs++dvs)) (upd (upd H dx (.own x)) x (.ins C dx [])) (fun v H2=>v = .non∧Q (.ref x) H2) E) :
  wpAny (model X.prog X.w) X.A (call (.ref C) us) (EP X pins σ Q) X.xe s:=by
 have hq:=h (s.heap.objs.size+1) s.heap.objs.size (I.hok.fresh (Nat.le_succ _)) (I.hok.fresh (Nat.le_refl _)) (Nat.ne_of_lt (Nat.lt_succ_self _));have I2:=Inv.made (C:=C) I;have r2:Vals (V.ref (s.heap.objs.size+1)::(vs++dvs)) (Value.ref (s.heap.objs.size+1)::(us++ds)) := .cons rfl (r.append hd);have hl:(Value.ref (s.heap.objs.size+1)::us++ds).length=ps.length:=by
  have e:=r2.length;rw [F.len _ _ _ _ hq] at e;exact e.symm
 refine wpAny_call (zLz (f:=f) I.kIn M.makes M.init (beq_iff_eq.mp M.fn) (codeAny_mono (F.run _ X.stack _ _ ⟨Value.ref (s.heap.objs.size+1)::us,[]⟩ (Value.ref (s.heap.objs.size+1)::(us++ds)) _ _ E (hr.make C us [])
  (I2.env0.make C us []) (hb _ (Value.ref (s.heap.objs.size+1)::us) I2.kIn hl) r2 hq) fun r s' hq'=>?_))
 cases r with
 | error e=>exact hx pins σ _ _ e s' I2 hq'
 | ok fl =>
  cases fl with
  | ret u =>
   obtain⟨v,H',I3,rv,ev,q3⟩:=I2.after hq';subst ev;exact⟨rv,⟨V.ref (s.heap.objs.size+1),H',I3,rfl,q3⟩⟩
  | next=>exact False.elim hq'
  | brk=>exact False.elim hq'
  | cont=>exact False.elim hq'
theorem BRz (M:Mk X.K C f) (F:FnOk X.prog X.w X.K X.mg X.base CX k f fd ps sp) (hr:Room (k+1) X.A) (hg:Gl X x) (hm:X.mg x=some (.ref C)) (hb:aOz X.K fd ps ds) (hd:Vals dvs ds) (hx:mD CX X E)
  (ha:PA X (e::es) t) (hdb:(x == ("__debug__" : Str))=false:=by decide) (he:starEach (e::es) X.env=(false,eval e X.env)::starEach es X.env:=by rfl) (hpl:(backTo pos (starEach es X.env)).any (·.1)=false:=by rfl) :
  PE X (.Call (.Name x p) (e::es) [] pos) (tMake C sp dvs E t):=by
 intro pins s σ H Q I h;refine wpAny_Call_Name_kw (qA I hg hm ?_ hdb);refine W.callWith_K (h₀ := X.base) I.ok.mod.kin M.kp (thn (ha pos pins s σ H _ I h) fun us s1 ⟨vs,H1,I1,r,q⟩=>⟨I1.kIn,?_⟩) he hpl;exact rSz M F hr hb hd hx I1 r q
theorem zAz (M:Mk X.K C f) (F:FnOk X.prog X.w X.K X.mg X.base CX k f fd ps sp) (hr:Room (k+1) X.A) (hg:Gl X x) (hm:X.mg x=some (.ref C)) (hb:aOz X.K fd ps ds) (hd:Vals dvs ds) (hx:mD CX X E)
  (hdb:(x == ("__debug__" : Str))=false:=by decide):PE X (.Call (.Name x p) [] [] pos) (tMake C sp dvs E tNil):=by
 intro pins s σ H Q I h;refine wpAny_Call_Name_kw (qA I hg hm ?_ hdb);exact W.callWith_K0 I.kIn M.kp (rSz (us:=[]) M F hr hb hd hx I .nil h)
end
section
variable {X:Cx} {CX:CXT} {k:Nat} {f C:Addr} {fd:FuncData} {ps ks:List Str} {sp:Sp} {E:XK} {x m:Str} {p pos apos kpos:Pos} {e o:Expr} {es:List Expr} {kws:List Keyword} {te ta:TE} {t tk:TA} {nm:Option Str}
variable {g:List Value→List Value→List Value} {gV:List V→List V→List V}
end
structure aI (N P:List Str) (sc:Scope):Prop where
 kind:sc.kind = .function
 co:sc.isCoroutine=false
 gen:sc.isGenerator=false
 nd:N.Nodup
 pre:N.take P.length=P
 par:∀x∈P,sc.names.lookup x=some .local∨sc.names.lookup x=some .cell
 nofree:∀y∈sc.names,y.2≠.free
theorem n5z {kindOf:Str→Option NameKind} {x:Str}:∀{binds:List (Str×Value)} {m:Str→Option Value},(∀v,(x,v)∉binds)→bindL kindOf binds m x=m x
 | [],_,_=>rfl
 | (n,v)::r,m,h=>by
  unfold bindL;rw [n5z fun w hw=>h w (List.mem_cons_of_mem _ hw)];split
  ·have:x≠n:=by rintro rfl;exact h v List.mem_cons_self
   simp [this]
  ·rfl
theorem n7z {kindOf:Str→Option NameKind} {x:Str}:∀{binds:List (Str×Value)} {m:Str→Option Value},(∀v,(x,v)∉binds)→bindC kindOf binds m x=m x
 | [],_,_=>rfl
 | (n,v)::r,m,h=>by
  unfold bindC;rw [n7z fun w hw=>h w (List.mem_cons_of_mem _ hw)];split
  ·rfl
  ·have:x≠n:=by rintro rfl;exact h v List.mem_cons_self
   simp [this]
theorem n6z {kindOf:Str→Option NameKind} {x:Str} {v:Value}:∀{P:List Str} {vs:List Value} {i:Nat} {m:Str→Option Value},P.Nodup→P[i]?=some x→vs[i]?=some v→kindOf x=some .local→
  bindL kindOf (P.zip vs) m x=some v
 | [],_,_,_,_,h,_,_=>by simp at h
 | _::_,[],_,_,_,_,h,_=>by simp at h
 | p::P,w::vs,0,m,nd,h1,h2,hk=>by
  simp at h1 h2;subst h1;subst h2;show bindL kindOf ((p,w)::P.zip vs) m p=_;unfold bindL;rw [n5z fun v hv=>(List.nodup_cons.mp nd).1 (List.of_mem_zip hv).1,if_pos hk]
  simp
 | p::P,w::vs,i+1,m,nd,h1,h2,hk=>by
  show bindL kindOf ((p,w)::P.zip vs) m x=_;unfold bindL;exact n6z (i:=i) (List.nodup_cons.mp nd).2 (by simpa using h1) (by simpa using h2) hk
theorem n8z {kindOf:Str→Option NameKind} {x:Str} {v:Value}:∀{P:List Str} {vs:List Value} {i:Nat} {m:Str→Option Value},P.Nodup→P[i]?=some x→vs[i]?=some v→kindOf x≠some .local→
  bindC kindOf (P.zip vs) m x=some v
 | [],_,_,_,_,h,_,_=>by simp at h
 | _::_,[],_,_,_,_,h,_=>by simp at h
 | p::P,w::vs,0,m,nd,h1,h2,hk=>by
  simp at h1 h2;subst h1;subst h2;show bindC kindOf ((p,w)::P.zip vs) m p=_;unfold bindC;rw [n7z fun v hv=>(List.nodup_cons.mp nd).1 (List.of_mem_zip hv).1,if_neg hk]
  simp
 | p::P,w::vs,i+1,m,nd,h1,h2,hk=>by
  show bindC kindOf ((p,w)::P.zip vs) m x=_;unfold bindC;exact n8z (i:=i) (List.nodup_cons.mp nd).2 (by simpa using h1) (by simpa using h2) hk
def start (N:List Str) (vs:List V):St:=vs.map some++List.replicate (N.length-vs.length) none
def cxOf (CX:CXT) (P:Program) (w:World) (K:W.Frag) (mg:Str→Option Value) (base:Heap) (N:List Str) (qual:Str) (scope:Scope) (f:Addr) (cd:Value) (A:Around) (outer:List Env) (s:Shared) (H:Hp) (E:XK):Cx where
 prog:=P
 w:=w
 K:=K
 mg:=mg
 base:=base
 A:=A.deeper (envOfC qual scope s.heap.objs.size f cd)
 N:=N
 s_0:=s
 H_0:=H
 env:=envOfC qual scope s.heap.objs.size f cd
 outer:=outer
 stack:=envOfC qual scope s.heap.objs.size f cd::outer
 ex:=[]
 calm:=true
 fn:=fun _=>true
 pn:=[]
 xe:=fun e s'=>wpAny (model P w) (A.deeper (envOfC qual scope s.heap.objs.size f cd)) (leaving (envOfC qual scope s.heap.objs.size f cd) e) (fun _ s''=>CX outer H s E e s'') (fun e' s''=>CX outer H s E e' s'') s'
theorem sXz {sc:Scope} {n:Nat} {x:Str} (h:sc.names.lookup x=some .cell):∃c,(cellsFrom n sc.names []).lookup x=some c:=by
 have q:=W.cellsFrom_some sc.names n [] (.inl h);exact Option.isSome_iff_exists.mp q
theorem xNz {CX:CXT} {P:Program} {w:World} {K:W.Frag} {mg:Str→Option Value} {base:Heap} {N ps:List Str} {qual:Str} {scope:Scope} {f:Addr} {cd:Value} {A:Around} {outer:List Env} {s s1:Shared} {H:Hp} {E:XK} {us:List Value} {vs:List V}
  (S:aI N ps scope) (hd:A.handled=none) (e0:Env0 P w K mg base A outer s H) (hl:vs.length=ps.length) (r:Vals vs us)
  (x:InCallC s s.heap.objs.size (bindL (envOfC qual scope s.heap.objs.size f cd).kindOf (ps.zip us) fun _=>none) (cellsFrom (s.heap.objs.size+1) scope.names []) (bindC (envOfC qual scope s.heap.objs.size f cd).kindOf (ps.zip us) fun _=>none) s1) :
  Inv (cxOf CX P w K mg base N qual scope f cd A outer s H E) [] (start N vs) H s1:=by
 have hpl:ps.length≤N.length:=by have:=congrArg List.length S.pre;rw [List.length_take] at this;omega
 obtain⟨h1,tk,rfl,hk⟩:=x.done;have noA:∀b:Addr,b∉(cxOf CX P w K mg base N qual scope f cd A outer s H E).ex:=fun b z=>absurd (show b∈([]:List Addr) from z) (by simp)
 refine⟨⟨e0.mod,S.kind,rfl,rfl,Nat.le_refl _,fun y z c h1 h2=>?_,fun y hy=>?_,fun y c _ h=>?_,fun _=>hd,Around.frames_deeper e0.frames,.inr ⟨rfl,rfl⟩,fun b z=>absurd z (noA b),e0.bs,e0.bsz,fun b _ _=>noA b,fun b z=>absurd z (noA b),e0.funs,e0.frf⟩,
  rfl,e0.bare,Un.kept hk,⟨_,x.toInCall.ns,fun i y v h1 h2 h3=>?_⟩,fun y c h=>⟨_,x.cell y c h⟩,e0.hok.fresh (Nat.le_refl _),fun y c h=>?_,fun p hp=>absurd (show p∈([]:List (Addr×Obj)) from hp) (by simp),e0.hok.kept hk,?_⟩
 ·exact name_of_addr x.apart (PySem.mem_of_lookup h1) (PySem.mem_of_lookup h2)
 ·have hy:scope.names.lookup y=some .cell∨scope.names.lookup y=some .free:=hy
  rcases hy with hy | hy
  ·exact sXz hy
  ·exact absurd rfl (S.nofree _ (PySem.mem_of_lookup hy))
 ·exact Nat.le_of_lt (x.above y c (PySem.mem_of_lookup h))
 ·have hi:i<vs.length:=by
   unfold start at h2
   by_cases hi:i<vs.length
   ·exact hi
   ·rw [List.getElem?_append_right (by simpa using hi)] at h2
    rw [List.getElem?_replicate] at h2;split at h2 <;> cases h2
  have ha:vs[i]?=some v:=by
   unfold start at h2;rw [List.getElem?_append_left (by simpa using hi),List.getElem?_map] at h2;cases e:vs[i]? with
   | none=>rw [e] at h2;cases h2
   | some a=>rw [e] at h2;cases h2;rfl
  obtain⟨u,hu,rv⟩:=r.get ha;have hp:ps[i]?=some y:=by
   rw [← S.pre,List.getElem?_take_of_lt (by omega)];exact h1
  have ndP:ps.Nodup:=by rw [← S.pre];exact S.nd.sublist (List.take_sublist _ _)
  refine⟨u,rv,?_⟩;rcases S.par y (List.mem_of_getElem? hp) with k | k
  ·exact .inl ⟨k,n6z ndP hp hu k⟩
  ·obtain⟨c,e⟩:=sXz (n:=s.heap.objs.size+1) k
   refine .inr ⟨.inl k,c,e,?_⟩;have q:=x.cell y c e;rw [n8z ndP hp hu (by show scope.names.lookup y≠_;rw [k];decide)] at q;exact q
 ·exact e0.hok.fresh (Nat.le_of_lt (x.above y c (PySem.mem_of_lookup h)))
 ·unfold start
  show _=N.length;rw [List.length_append,List.length_map,List.length_replicate];omega
theorem fn_of {CX:CXT} {P:Program} {w:World} {K:W.Frag} {mg:Str→Option Value} {base:Heap} {k:Nat} {f:Addr} {name qual:Str} {params:Arguments} {body:List Stmt} {scope:Scope} {dV kV doc pm cdv ct oc:Value} {an od:Option Addr}
  {osl:Array (Option Value)} {N ps:List Str} {sp:Sp} (lk:K.lookup f=some ⟨oc,od,.func (W.fnOf name qual params body scope dV kV doc pm an cdv ct),osl⟩) (hcd:W.codeIn K cdv qual=true) (S:aI N ps scope)
  (len:∀vs H Q E,sp vs H Q E→vs.length=ps.length)
  (hbody:∀(A:Around) (outer:List Env) (s:Shared) (H:Hp) (vs:List V) (Q:VK) (E:XK),Room k (A.deeper (envOfC qual scope s.heap.objs.size f cdv))→sp vs H Q E→
   ∃t,PSs (cxOf CX P w K mg base N qual scope f cdv A outer s H E) body t∧t {nx:=fun _ H'=>Q .non H',rt:=Q} (start N vs) H) :
  FnOk P w K mg base CX (k+1) f (W.fnOf name qual params body scope dV kV doc pm an cdv ct) ps sp:=by
 refine⟨len,fun A outer s H args us vs Q E hr e0 hb r hsp=>?_⟩;have hl:=len _ _ _ _ hsp;have KX:K.In s.heap:=e0.mod.kin.keeps fun b o e=>(e0.bs b o e).1;have lim:s.heap.NoLimit:=e0.mod.nolimit.keeps fun b o e=>(e0.bs b o e).1;have hkind:∀y∈ps.zip us,scope.names.lookup y.1=some .local∨(scope.names.lookup y.1=some .cell∧((cellsFrom (s.heap.objs.size+1) scope.names []).lookup y.1).isSome=true):=fun ⟨n,v⟩ hy=>by
  rcases S.par n (List.of_mem_zip hy).1 with q | q
  ·exact .inl q
  ·exact .inr ⟨q,W.cellsFrom_some _ _ _ (.inl q)⟩
 refine codeAny_call_function hr.depth (KX _ _ lk) rfl S.co S.gen rfl (W.codeRec_of KX hcd) (hb _ _ _ _ ?_);refine wpAny_newFunctionEnv_cells S.kind hkind fun env he s1 x=>?_;subst he;refine⟨lim.keeps x.toInCall.keep,codeAny_func ?_⟩;obtain⟨t,ht,hq⟩:=hbody A outer s H vs Q E (hr.deeper _) hsp;have I:Inv (cxOf CX P w K mg base N qual scope f cdv A outer s H E) [] (start N vs) H s1:=xNz S hr.hd e0 hl r x;refine wpAny_mono (ht [] s1 (start N vs) H _ I hq) (fun fl s' hs=>?_) fun e s' hs=>hs;have fin:∀{σ':St} {H':Hp} {v:V} {u:Value},Inv (cxOf CX P w K mg base N qual scope f cdv A outer s H E) [] σ' H' s'→RelV v u→Q v H'→CE outer P w H s Q u s' :=
  fun {σ' H' v u} J rv q=>⟨v,H',J.os,J.bare,J.base,J.hok,rv,q⟩
 cases fl with
 | ret u =>
  obtain⟨v,σ',H',J,rv,q⟩:=hs;exact fin J rv q
 | next =>
  obtain⟨σ',H',J,q⟩:=hs;exact fin (v:=V.non) (u:=Value.none) J rfl q
 | brk =>
  obtain⟨_,_,_,q⟩:=hs;exact False.elim q
 | cont =>
  obtain⟨_,_,_,q⟩:=hs;exact False.elim q
end L2
namespace L2
open PySem PySem.Spec PyProof.Rows
section
variable {X:Cx} {x:Str} {p pos:Pos} {e:Expr} {es:List Expr} {t:TA} {id T:String} {r:List V→Hp→VK→Prop}
def tCB (r:List V→Hp→VK→Prop) (t:TA):TE:=fun σ H Q=>t σ H fun vs H1=>r vs H1 Q
theorem bH (hc:hKz X (.builtin id) r) (hg:Gl X x) (hm:X.mg x=none) (hv:bootBuiltins x=some (.builtin id)) (ha:PA X (e::es) t) (hn:x≠"__name__" := by decide) (hdb:(x == ("__debug__" : Str))=false:=by decide)
  (he:starEach (e::es) X.env=(false,eval e X.env)::starEach es X.env:=by rfl) (hpl:(backTo pos (starEach es X.env)).any (·.1)=false:=by rfl):PE X (.Call (.Name x p) (e::es) [] pos) (tCB r t):=by
 intro pins s σ H Q I h;refine wpAny_Call_Name_kw (iIz I hg hm hv ?_ hn hdb);exact PyProof.Rows.callWith_builtin1 (thn (ha pos pins s σ H _ I h) fun us s1 ⟨vs,H1,I1,r1,q1⟩=>hc pins s1 σ H1 vs us Q I1 r1 q1) he hpl
theorem fX (hc:hKz X (.type T) r) (hg:Gl X x) (hm:X.mg x=none) (hv:bootBuiltins x=some (.type T)) (ha:PA X (e::es) t) (hn:x≠"__name__" := by decide) (hdb:(x == ("__debug__" : Str))=false:=by decide)
  (he:starEach (e::es) X.env=(false,eval e X.env)::starEach es X.env:=by rfl) (hpl:(backTo pos (starEach es X.env)).any (·.1)=false:=by rfl):PE X (.Call (.Name x p) (e::es) [] pos) (tCB r t):=by
 intro pins s σ H Q I h;refine wpAny_Call_Name_kw (iIz I hg hm hv ?_ hn hdb);exact PyProof.Rows.callWith_type1 (thn (ha pos pins s σ H _ I h) fun us s1 ⟨vs,H1,I1,r1,q1⟩=>hc pins s1 σ H1 vs us Q I1 r1 q1) he hpl
end
end L2
namespace HT
open PySem PyProof.Rows
section
open PySem.SeqAt
open PySem.AutoSeq1 (wpAny_loadPart')
open PySem.MeetsSeq PySem.MeetsSeq2 PySem.MeetsSeq3
end
section
variable {prog:Program} {w:World} {A:Around} {E:Value→Shared→Prop} {s:Shared}
def sIx (n d:Nat):Option Int→Nat
 | none=>d
 | some v=>if v<0 then (v+(n:Int)).toNat else min v.toNat n
theorem v3z (n d k:Nat):sIx n d (some (k:Int))=min k n:=by
 show (if (k:Int)<0 then ((k:Int)+(n:Int)).toNat else min (k:Int).toNat n)=min k n;rw [if_neg (by omega),Int.toNat_natCast]
end
end HT
namespace L2
open PySem PySem.Spec PyProof.Rows
abbrev TO:=St→Hp→(Option Int→Hp→Prop)→Prop
def PO (X:Cx) (e:Option Expr) (t:TO):Prop :=
 ∀(pins:List (Addr×Obj)) (s:Shared) (σ : St) (H:Hp) (Q:Option Int→Hp→Prop),Inv X pins σ H s→t σ H Q→
  wpAny (model X.prog X.w) X.A (evalPart e X.env) (fun u s'=>∃o H',Inv X pins σ H' s'∧IsPart u o∧Q o H') X.xe s
def tNoPart:TO:=fun _ H Q=>Q none H
def tPart (t:TE):TO:=fun σ H Q=>t σ H fun x H1=>∃i,x = .int i∧Q (some i) H1
section
variable {X:Cx} {e:Expr} {te:TE} {lo hi:Option Expr} {tl th:TO} {pos p2:Pos}
theorem wEz:PO X none tNoPart:=by
 intro pins s σ H Q I h;rw [evalPart_none];exact wpAny_pure ⟨none,H,I,.none,h⟩
theorem sD (h:PE X e te):PO X (some e) (tPart te):=by
 intro pins s σ H Q I hw;rw [evalPart_some];refine thn (h pins s σ H _ I hw) fun u s1 ⟨x,H1,I1,r1,q1⟩=>?_;obtain⟨i,rfl,q⟩:=q1;obtain⟨t,rfl⟩:=r1;exact⟨some i,H1,I1,.int i t,q⟩
def SlR (X:Cx) (r:V→Option Int→Option Int→Hp→VK→Prop):Prop :=
 ∀(pins:List (Addr×Obj)) (s:Shared) (σ : St) (H:Hp) (x:V) (v vl vu:Value) (lo hi:Option Int) (sl:Addr) (Q:VK),Inv X pins σ H s→RelV x v→s.heap.IsSliceOf sl vl vu .none→IsPart vl lo→IsPart vu hi→r x lo hi H Q→
  ∃T id,typeLookup (.type T) "__getitem__" = pure (some (.builtin id))∧s.TypeIs v T∧wpAny (model X.prog X.w) X.A (getItem v (.ref sl)) (EP X pins σ Q) X.xe s
def tSl (r:V→Option Int→Option Int→Hp→VK→Prop) (te:TE) (tl th:TO):TE:=fun σ H Q=>te σ H fun x H1=>tl σ H1 fun l H2=>th σ H2 fun u H3=>r x l u H3 Q
theorem sAz {r:V→Option Int→Option Int→Hp→VK→Prop} (hr:SlR X r) (he:PE X e te) (hl:PO X lo tl) (hu:PO X hi th):PE X (.Subscript e (.Slice lo hi none p2) pos) (tSl r te tl th):=by
 intro pins s σ H Q I h;refine Subscript_ (thn (he pins s σ H _ I h) fun v s1 ⟨x,H1,I1,r1,q1⟩=>?_);refine wpAny_Slice (thn (hl pins s1 σ H1 _ I1 q1) fun vl s2 ⟨l,H2,I2,pl,q2⟩=>thn (hu pins s2 σ H2 _ I2 q2) fun vu s3 ⟨u,H3,I3,pu,q3⟩=>?_);rw [evalPart_none];refine wpAny_pure ?_;have I4:Inv X pins σ H3 {s3 with heap:=s3.heap.push {cls := .type "slice",data := .fields #[vl,vu,.none]}}:=I3.kept (t':=s3.toks) fun b ob q=>Heap.get?_push_of_some _ q;obtain⟨T,id,hT,ht,hg⟩:=hr pins {s3 with heap:=s3.heap.push {cls := .type "slice",data := .fields #[vl,vu,.none]}} σ H3 x v vl vu l u s3.heap.objs.size Q I4 r1 (Heap.IsSliceOf.new ..) pl pu q3;show wpAny (model X.prog X.w) X.A (subscriptTail e (.Slice lo hi none p2) v (.ref s3.heap.objs.size)) (EP X pins σ Q) X.xe {s3 with heap:=s3.heap.push {cls := .type "slice",data := .fields #[vl,vu,.none]}};exact tail_any (ops:=[.ref s3.heap.objs.size,v]) ht hT hg (by with_unfolding_all rfl)
def cutV (xs:List V) (lo hi:Option Int):List V:=(xs.drop (HT.sIx xs.length 0 lo)).take (HT.sIx xs.length xs.length hi-HT.sIx xs.length 0 lo)
theorem qEz (xs:List V) (lo hi:Option Int):(cutV xs lo hi).length≤xs.length:=by
 unfold cutV;rw [List.length_take,List.length_drop];omega
end
end L2
namespace L2
open PySem PySem.Spec PyProof.Rows
def ixN (n:Nat) (i:Int):Option Nat:=if 0≤i then (if i<n then some i.toNat else none) else if -(n:Int)≤i then some (i+n).toNat else none
def atI {α : Type} (xs:List α) (i:Int):Option α := (ixN xs.length i).bind fun j=>xs[j]?
theorem CGz {n:Nat} {i:Int} {j:Nat} (h:ixN n i=some j):seqIndex? i n=some j∧j<n∧-(n:Int)≤i∧i<n:=by
 unfold ixN at h
 by_cases h0:0≤i
 ·rw [if_pos h0] at h
  by_cases h1:i<n
  ·rw [if_pos h1] at h
   have e:i.toNat=j:=Option.some.inj h;exact⟨by rw [seqIndex_of h0 h1,e],by omega,by omega,h1⟩
  ·rw [if_neg h1] at h;cases h
 ·rw [if_neg h0] at h
  by_cases h1 : -(n:Int)≤i
  ·rw [if_pos h1] at h
   have e:(i+n).toNat=j:=Option.some.inj h;exact⟨by rw [seqIndex_neg (by omega) h1,e],by omega,h1,by omega⟩
  ·rw [if_neg h1] at h;cases h
theorem qIz {α : Type} {xs:List α} {i:Int} {v : α} (h:atI xs i=some v):∃j,seqIndex? i xs.length=some j∧xs[j]?=some v∧j<xs.length∧-(xs.length:Int)≤i∧i<xs.length:=by
 unfold atI at h;cases e:ixN xs.length i with
 | none=>rw [e] at h;cases h
 | some j =>
  rw [e] at h;obtain⟨h1,h2,h3,h4⟩:=CGz e;exact⟨j,h1,h,h2,h3,h4⟩
theorem fF {α : Type} {xs:List α} {j:Nat} {v : α} (h:xs[j]?=some v):atI xs (j:Int)=some v:=by
 have hj:j<xs.length:=(List.getElem?_eq_some_iff.mp h).1;have e:ixN xs.length (j:Int)=some j:=by
  unfold ixN;rw [if_pos (by omega),if_pos (by omega)];simp
 unfold atI;rw [e];exact h
def DCz (b:Expr):Prop := ∀o i,subscripted b false o i=operate [o,i] (getItem o i)
def IxR (X:Cx) (r:R2):Prop :=
 ∀(value slice:Expr) (pins:List (Addr×Obj)) (s:Shared) (σ : St) (H:Hp) (x y:V) (v u:Value) (Q:VK),Inv X pins σ H s→RelV x v→RelV y u→r x y H Q→
  subscripted slice false v u=operate [v,u] (getItem v u)→wpAny (model X.prog X.w) X.A (subscriptTail value slice v u) (EP X pins σ Q) X.xe s
def MtR (X:Cx) (id:String) (r:V→List V→Hp→VK→Prop):Prop :=
 ∀(pins:List (Addr×Obj)) (s:Shared) (σ : St) (H:Hp) (x:V) (xs:List V) (v:Value) (us:List Value) (Q:VK),Inv X pins σ H s→RelV x v→Vals xs us→r x xs H Q→
  wpAny (model X.prog X.w) X.A (call (.builtin id) (v::us)) (EP X pins σ Q) X.xe s
section
variable {X:Cx} {a b:Expr} {ta tb:TE} {pos:Pos}
theorem pN {r:R2} (hr:IxR X r) (ha:PE X a ta) (hb:PE X b tb) (hs:DCz b):PE X (.Subscript a b pos) (tOp r ta tb):=by
 intro pins s σ H Q I h;exact Subscript_ (binT ha hb I h fun v u s2 x y H2 I2 rx ry q=>hr a b pins s2 σ H2 x y v u Q I2 rx ry q (hs _ _))
inductive rIxL (K:W.Frag) (x y:V) (H:Hp) (Q:VK):Prop
 | mk (p xs i v) (_:x = .ref p) (_:y = .int i) (_:SqL K H p xs) (_:atI xs i=some v) (_:Q v H):rIxL K x y H Q
inductive rIxT (K:W.Frag) (x y:V) (H:Hp) (Q:VK):Prop
 | mk (p xs i v) (_:x = .ref p) (_:y = .int i) (_:SqT K H p xs) (_:atI xs i=some v) (_:Q v H):rIxT K x y H Q
def rIxS:R2:=fun x y H Q=>∃z i c,x = .str z∧y = .int i∧z.length≤sizeLine∧atI z.cps.toList i=some c∧Q (.str ⟨#[c]⟩) H
theorem fC:IxR X (rIxL X.K):=by
 intro value slice pins s σ H x y v u Q I rx ry h hs;obtain⟨p,xs,i,z,rfl,rfl,hq,he,q⟩:=h;cases rx;obtain⟨t,rfl⟩:=ry;obtain⟨its,r,pl,hz⟩:=I.list hq;obtain⟨j,h1,h2,h3,h4,h5⟩:=qIz he;obtain⟨w,ew,rw'⟩:=r.get h2;have hl:=r.length;have hn:=line63;have fin:EP X pins σ Q w s:=⟨z,H,I,rw',q⟩
 by_cases h0:0≤i
 ·have hj:i.toNat=j:=by
   rw [seqIndex_of h0 h5] at h1;exact Option.some.inj h1
  exact item_listR pl.isList h0 (by omega) (by rw [hj];simpa using ew) fin hs
 ·have hj:(i+(its.toArray.size:Int)).toNat=j:=by
   rw [seqIndex_neg (by omega) h4] at h1;rw [List.size_toArray,← hl];exact Option.some.inj h1
  exact subscriptTail_builtinR (x:=w) pl.isList.typeIs slot_list_getitem.lookup
   (wpAny_getItem_list_neg (Q:=fun r s'=>r=w∧EP X pins σ Q r s') pl.isList (by omega) (by rw [List.size_toArray] <;> omega) (by omega) (by rw [hj];simpa using ew) ⟨rfl,fin⟩) hs
theorem ix_tup:IxR X (rIxT X.K):=by
 intro value slice pins s σ H x y v u Q I rx ry h hs;obtain⟨p,xs,i,z,rfl,rfl,hq,he,q⟩:=h;cases rx;obtain⟨t,rfl⟩:=ry;obtain⟨its,r,pl,hz⟩:=I.tuple hq;obtain⟨j,h1,h2,h3,h4,h5⟩:=qIz he;obtain⟨w,ew,rw'⟩:=r.get h2;have hl:=r.length;have hn:=line63;have fin:EP X pins σ Q w s:=⟨z,H,I,rw',q⟩;exact subscriptTail_builtinR (x:=w) pl.typeIs slot_tuple_getitem.lookup
  (getItem_tuple (j:=j) (Q:=fun r s'=>r=w∧EP X pins σ Q r s') pl (by omega) (by omega) (by rw [List.size_toArray,← hl];exact h1) (by simpa using ew) ⟨rfl,fin⟩) hs
theorem ix_str:IxR X rIxS:=by
 intro value slice pins s σ H x y v u Q I rx ry h hs;obtain⟨z,i,c,rfl,rfl,hz,he,q⟩:=h;obtain⟨t,rfl⟩:=rx;obtain⟨t',rfl⟩:=ry;obtain⟨j,h1,h2,h3,h4,h5⟩:=qIz he;have hl:z.cps.toList.length=z.length:=by simp [Str.length]
 rw [hl] at h1 h4 h5;have hn:=line63
 exact tail_any (typeIs_str s z t) slot_str_getitem.lookup (getItem_str (c:=c) (by
  have e1:decide (i < -(2 ^ 63:Int))=false:=decide_eq_false (by omega);have e2:decide (i≥2 ^ 63)=false:=decide_eq_false (by omega);rw [e1,e2,Bool.or_false]) (by rw [h1];simpa using h2) ⟨.str ⟨#[c]⟩,H,I.tok _,⟨_,rfl⟩,q⟩) hs
theorem lTz (lo hi:Option Int) (n:Nat):(sliceBounds lo hi none n).1=((HT.sIx n 0 lo:Nat):Int)∧(sliceBounds lo hi none n).2.1=((HT.sIx n n hi:Nat):Int)∧(sliceBounds lo hi none n).2.2=1:=by
 refine⟨?_,?_,rfl⟩
 ·cases lo with
  | none=>simp [sliceBounds,HT.sIx]
  | some i =>
   simp only [sliceBounds,HT.sIx,Option.getD_none,show (1:Int) > 0 by decide,if_true]
   by_cases h:i<0
   ·simp only [h,if_true] <;> omega
   ·simp only [h,if_false] <;> omega
 ·cases hi with
  | none=>simp [sliceBounds,HT.sIx]
  | some i =>
   simp only [sliceBounds,HT.sIx,Option.getD_none,show (1:Int) > 0 by decide,if_true]
   by_cases h:i<0
   ·simp only [h,if_true] <;> omega
   ·simp only [h,if_false] <;> omega
theorem jJz (its:List Value) (lo hi:Option Int):slicePick its.toArray lo hi none=((its.drop (HT.sIx its.length 0 lo)).take (HT.sIx its.length its.length hi-HT.sIx its.length 0 lo)).toArray:=by
 obtain⟨h1,h2,h3⟩:=lTz lo hi its.toArray.size;unfold slicePick;rw [h1,h2,h3];simp only [sliceRange_one,pick_run,List.size_toArray] <;> rfl
def rSlL (K:W.Frag):V→Option Int→Option Int→Hp→VK→Prop:=fun x lo hi H Q=>∃a xs,x = .ref a∧SqL K H a xs∧∀p,H p=none→Q (.ref p) (upd H p (.lst (cutV xs lo hi)))
theorem vZz:SlR X (rSlL X.K):=by
 intro pins s σ H x v vl vu lo hi sl Q I rx hs pl pu h;obtain⟨a,xs,rfl,hx,q⟩:=h;cases rx;obtain⟨its,r,ht,hz⟩:=I.list hx;have hlen:=r.length;refine⟨"list",_,slot_list_getitem.lookup,ht.isList.typeIs,?_⟩;refine wpAny_getItem_list_slice ht.isList hs pl pu .none (by simp) ?_ (by rw [List.size_toArray] <;> omega);rw [jJz,← hlen];refine⟨.ref s.heap.objs.size,_,I.laid (t':=s.toks) (o := .lst (cutV xs lo hi)) (fun b ob q=>Heap.get?_push_of_some _ q) (Nat.le_refl _) ?_,rfl,q _ (I.hok.fresh (Nat.le_refl _))⟩;exact⟨Nat.le_trans (qEz xs lo hi) hz,_,0,(r.drop (HT.sIx xs.length 0 lo)).take (HT.sIx xs.length xs.length hi-HT.sIx xs.length 0 lo),Heap.get?_push_size _ rfl⟩
def flatV:V→Bool
 | .non=>true
 | .bl _=>true
 | .int _=>true
 | .str _=>true
 | _=>false
def eqV:V→V→Bool
 | .non,.non=>true
 | .bl a,.bl b=>a == b
 | .bl a,.int b=>(if a then 1 else 0) == b
 | .int a,.bl b=>a == (if b then 1 else 0)
 | .int a,.int b=>a == b
 | .str a,.str b=>a == b
 | _,_=>false
theorem eqAt_V {A:Around} {s:Shared} {y x:V} {u v:Value} (ry:RelV y u) (rx:RelV x v) (fy:flatV y=true) (fx:flatV x=true):SeqAt.EqAt A s u v (eqV y x):=by
 cases y with
 | non =>
  cases ry;cases x with
  | non=>cases rx;exact SeqAt.EqAt.same _
  | bl b=>cases rx;exact SeqAt.EqAt.none_bool b
  | int b=>obtain⟨t,rfl⟩:=rx;exact SeqAt.EqAt.none_int b t
  | str b=>obtain⟨t,rfl⟩:=rx;exact SeqAt.EqAt.none_str b t
  | _=>exact absurd (show false=true from fx) Bool.false_ne_true
 | bl a =>
  cases ry;cases x with
  | non=>cases rx;exact SeqAt.EqAt.bool_none a
  | bl b=>cases rx;exact SeqAt.EqAt.bool_bool a b
  | int b=>obtain⟨t,rfl⟩:=rx;exact SeqAt.EqAt.bool_int a b t
  | str b=>obtain⟨t,rfl⟩:=rx;exact SeqAt.EqAt.bool_str a b t
  | _=>exact absurd (show false=true from fx) Bool.false_ne_true
 | int a =>
  obtain⟨t',rfl⟩:=ry;cases x with
  | non=>cases rx;exact SeqAt.EqAt.int_none a t'
  | bl b=>cases rx;exact SeqAt.EqAt.int_bool a t' b
  | int b=>obtain⟨t,rfl⟩:=rx;exact SeqAt.EqAt.int_int a t' b t
  | str b=>obtain⟨t,rfl⟩:=rx;exact SeqAt.EqAt.int_str a t' b t
  | _=>exact absurd (show false=true from fx) Bool.false_ne_true
 | str a =>
  obtain⟨t',rfl⟩:=ry;cases x with
  | non=>cases rx;exact SeqAt.EqAt.str_none a t'
  | bl b=>cases rx;exact SeqAt.EqAt.str_bool a t' b
  | int b=>obtain⟨t,rfl⟩:=rx;exact SeqAt.EqAt.str_int a t' b t
  | str b=>obtain⟨t,rfl⟩:=rx;exact SeqAt.EqAt.str_str a t' b t
  | _=>exact absurd (show false=true from fx) Bool.false_ne_true
 | _=>exact absurd (show false=true from fy) Bool.false_ne_true
def eqU (x:V) (u:Value):Bool:=match u with
 | .none=>eqV .non x
 | .bool b=>eqV (.bl b) x
 | .int i _=>eqV (.int i) x
 | .str z _=>eqV (.str z) x
 | _=>false
theorem AXz {x y:V} {u:Value} (r:RelV y u) (f:flatV y=true):eqU x u=eqV y x:=by
 cases y with
 | non=>cases r;rfl
 | bl b=>cases r;rfl
 | int i=>obtain⟨t,rfl⟩:=r;rfl
 | str z=>obtain⟨t,rfl⟩:=r;rfl
 | _=>exact absurd (show false=true from f) Bool.false_ne_true
theorem qKz {x:V}:∀{xs:List V} {us:List Value},Vals xs us→xs.all flatV=true→us.any (eqU x)=xs.any fun y=>eqV y x
 | _,_,.nil,_=>rfl
 | y::xs,u::us,.cons r t,f=>by
  rw [List.all_cons,Bool.and_eq_true] at f;rw [List.any_cons,List.any_cons,AXz r f.1,qKz t f.2]
theorem j4z {A:Around} {s:Shared} {x:V} {v:Value} (rx:RelV x v) (fx:flatV x=true):∀{xs:List V} {us:List Value},Vals xs us→xs.all flatV=true→∀u∈us,SeqAt.EqAt A s u v (eqU x u)
 | _,_,.nil,_=>fun u hu=>by cases hu
 | y::xs,u::us,.cons r t,f=>fun u' hu=>by
  rw [List.all_cons,Bool.and_eq_true] at f;rcases List.mem_cons.mp hu with rfl | hu
  ·rw [AXz r f.1];exact eqAt_V r rx f.1 fx
  ·exact j4z rx fx t f.2 u' hu
def inV (x:V) (xs:List V):Bool:=xs.any fun y=>eqV y x
def rIn (K:W.Frag) (neg:Bool):R2:=fun x y H Q=>∃p xs,y = .ref p∧(SqL K H p xs∨SqT K H p xs)∧flatV x=true∧xs.all flatV=true∧Q (.bl (if neg then !inV x xs else inV x xs)) H
theorem mUz:OpR X (compareOp .In) (rIn X.K false):=by
 intro pins s σ H x y v u Q I rx ry h;obtain⟨p,xs,rfl,hq,fx,fs,q⟩:=h;cases ry;rcases hq with hq | hq
 ·obtain⟨its,r,pl,hz⟩:=I.list hq
  refine SeqAt.in_listAt (eqU x) pl.isList (fun w hw=>j4z rx fx r fs w (by simpa using hw)) ⟨.bl _,H,I,rfl,?_⟩;rw [show its.toArray.any (eqU x)=its.any (eqU x) by simp,qKz r fs];exact q
 ·obtain⟨its,r,pl,hz⟩:=I.tuple hq
  refine SeqAt.in_tupleAt (eqU x) pl (fun w hw=>j4z rx fx r fs w (by simpa using hw)) ⟨.bl _,H,I,rfl,?_⟩;rw [show its.toArray.any (eqU x)=its.any (eqU x) by simp,qKz r fs];exact q
theorem bT:hKz X (.builtin "len") (fun xs H Q=>∃p ys,xs=[.ref p]∧(SqL X.K H p ys∨SqT X.K H p ys)∧Q (.int ys.length) H):=by
 intro pins s σ H xs us Q I r h;obtain⟨p,ys,rfl,hq,q⟩:=h;obtain⟨u,rfl,rx⟩:=vals1 r;cases rx;have hn:=line63;rcases hq with hq | hq
 ·obtain⟨its,r',pl,hz⟩:=I.list hq
  have hlen:=r'.length;exact Calls.call_len_list pl.isList (by simp only [List.size_toArray] <;> omega) ⟨.int ys.length,H,I.tok _,⟨s.toks+1,by rw [List.size_toArray,hlen]⟩,q⟩
 ·obtain⟨its,r',pl,hz⟩:=I.tuple hq
  have hlen:=r'.length;exact len_tuple pl (by simp only [List.size_toArray] <;> omega) ⟨.int ys.length,H,I.tok _,⟨s.toks+1,by rw [List.size_toArray,hlen]⟩,q⟩
theorem bTz:hKz X (.type "list") (fun xs H Q=>∃p ys,xs=[.ref p]∧(SqL X.K H p ys∨SqT X.K H p ys)∧∀l,H l=none→Q (.ref l) (upd H l (.lst ys))):=by
 intro pins s σ H xs us Q I r h;obtain⟨p,ys,rfl,hq,q⟩:=h;obtain⟨u,rfl,rx⟩:=vals1 r;cases rx;have fin:∀(its:List Value),Vals ys its→ys.length≤sizeLine→∀(h':Heap) (c':Nat),(∀b o',s.heap.get? b=some o'→h'.get? b=some o')→
   h'.get? s.heap.objs.size=some {cls := .type "list",dict:=none,data := .seq its.toArray c',slots := #[]}→EP X pins σ Q (.ref s.heap.objs.size) {s with heap:=h'}:=fun its r' hz h' c' kp e =>
  ⟨.ref s.heap.objs.size,_,I.laid (t':=s.toks) kp (Nat.le_refl _) (show eY X.prog X.w _ h' _ (.lst ys) from ⟨hz,its,c',r',e⟩),rfl,q _ (I.hok.fresh (Nat.le_refl _))⟩
 rcases hq with hq | hq
 ·obtain⟨its,r',pl,hz⟩:=I.list hq
  have hlen:=r'.length;obtain⟨o,ho,hc,n,hd⟩:=pl.isList;exact call_list_seq p (.inl rfl) ho hc hd (fun h' c' kp e=>fin its r' hz h' c' kp e) (by simp only [List.size_toArray] <;> omega)
 ·obtain⟨its,r',pl,hz⟩:=I.tuple hq
  have hlen:=r'.length;obtain⟨o,ho,hc,n,hd⟩:=pl;exact call_list_seq p (.inr rfl) ho hc hd (fun h' c' kp e=>fin its r' hz h' c' kp e) (by simp only [List.size_toArray] <;> omega)
theorem qP:hKz X (.type "tuple") (fun xs H Q=>∃p ys,xs=[.ref p]∧((SqL X.K H p ys∧∀l,H l=none→Q (.ref l) (upd H l (.tup ys)))∨(SqT X.K H p ys∧Q (.ref p) H))):=by
 intro pins s σ H xs us Q I r h;obtain⟨p,ys,rfl,h⟩:=h;obtain⟨u,rfl,rx⟩:=vals1 r;cases rx;rcases h with ⟨hq,q⟩ | ⟨hq,q⟩
 ·obtain⟨its,r',pl,hz⟩:=I.list hq
  have hlen:=r'.length;refine call_tuple_list pl.isList (fun h' kp=>?_) (by simp only [List.size_toArray] <;> omega);have I1:Inv X pins σ H {s with heap:=h'}:=I.kept (t':=s.toks) kp;have I2:Inv X pins σ (upd H h'.objs.size (.tup ys)) {s with heap:=h'.push {cls := .type "tuple",data := .seq its.toArray}} :=
   I1.laid (t':=s.toks) (fun b o e=>Heap.get?_push_of_some _ e) (Nat.le_refl _) (show eY X.prog X.w _ _ _ (.tup ys) from ⟨hz,its,r',IsTup.new _ _⟩)
  exact⟨.ref h'.objs.size,_,I2,rfl,q _ (I1.hok.fresh (Nat.le_refl _))⟩
 ·obtain⟨its,r',pl,hz⟩:=I.tuple hq
  exact call_tuple_same pl ⟨.ref p,H,I,rfl,q⟩
def tyV (K:W.Frag) (T:String) (x:V) (H:Hp):Prop:=match x with
 | .str _=>T = "str"
 | .int _=>T = "int"
 | .ref p=>(T = "list"∧∃xs,SqL K H p xs)∨(T = "tuple"∧∃o,K.lookup p=some o∧o.cls = .type "tuple"∧o.dict=none)∨
   (T = "dict"∧((∃kvs,H p=some (.dK kvs))∨∃kvs,H p=some (.dT kvs)))∨(T = "set"∧∃S n,H p=some (.set S n))
 | _=>False
theorem tyV_is {pins:List (Addr×Obj)} {σ : St} {H:Hp} {s:Shared} {T:String} {x:V} {v:Value} (I:Inv X pins σ H s) (r:RelV x v) (ty:tyV X.K T x H) :
  s.TypeIs v T∧∀a,v = .ref a→∃ob,s.heap.get? a=some ob∧ob.dict=none:=by
 cases x with
 | str z =>
  obtain⟨t,rfl⟩:=r;cases (show T = "str" from ty);exact⟨typeIs_str s z t,fun _ e=>nomatch e⟩
 | int i =>
  obtain⟨t,rfl⟩:=r;cases (show T = "int" from ty);exact⟨typeIs_int s i t,fun _ e=>nomatch e⟩
 | ref p =>
  cases r;rcases ty with ⟨rfl,xs,hq⟩ | ⟨rfl,o,hk,hc,hd⟩ | ⟨rfl,hk⟩ | ⟨rfl,S,n,hk⟩
  ·obtain⟨its,_,pl,_⟩:=I.list hq
   refine⟨pl.isList.typeIs,fun a e=>?_⟩;cases e;obtain⟨o,n,e,c,hd,_⟩:=pl;exact⟨o,e,hd⟩
  ·refine⟨⟨o,I.kIn p o hk,hc⟩,fun a e=>?_⟩
   cases e;exact⟨o,I.kIn _ o hk,hd⟩
  ·have z:∃o,s.heap.get? p=some o∧o.ExactDict:=by
    rcases hk with ⟨kvs,hk⟩ | ⟨kvs,hk⟩
    ·obtain⟨_,_,_,_,o,_,_,e,ex,_⟩:=I.hok p _ hk
     exact⟨o,e,ex⟩
    ·obtain⟨_,_,_,_,o,_,_,e,ex,_⟩:=I.hok p _ hk
     exact⟨o,e,ex⟩
   obtain⟨o,e,ex⟩:=z;refine⟨⟨o,e,ex.1⟩,fun a e2=>?_⟩;cases e2;exact⟨o,e,ex.2.1⟩
  ·obtain⟨o,_,_,_,e,ex,_⟩:=I.hok p _ hk
   refine⟨⟨o,e,ex.1⟩,fun a e2=>?_⟩;cases e2;exact⟨o,e,ex.2.1⟩
 | _=>exact False.elim ty
def tBM (K:W.Frag) (T:String) (r:V→List V→Hp→VK→Prop) (to:TE) (t:TA):TE:=fun σ H Q=>to σ H fun x H1=>tyV K T x H1∧t σ H1 fun xs H2=>r x xs H2 Q
variable {o e:Expr} {es:List Expr} {to:TE} {t:TA} {name:Str} {apos cpos:Pos} {T id:String} {r:V→List V→Hp→VK→Prop}
theorem kP (pa:PlainAttrs T) (slot:Slot T name id) (hty:typeOf (.builtin id)=pure (.type "method_descriptor")) (hm:MtR X id r) (ho:PE X o to) (ha:PA X (e::es) t)
  (hbase:attributeBase o name X.env (eval o X.env)=eval o X.env:=by rfl)
  (hfew:((backTo cpos (starEach (e::es) X.env)).all (fun x => !x.1)&&(backToKw cpos (keywordEach [] X.env)).all (fun x=>x.1.isSome)
   && decide ((e::es).length+([]:List Keyword).length+(if ([]:List Keyword).isEmpty then 0 else 1)<30))=true:=by rfl)
  (hline:(apos.endLine == cpos.line)=true:=by rfl) (hs:starEach (e::es) X.env=(false,eval e X.env)::starEach es X.env:=by rfl) (hplain:(backTo cpos (starEach es X.env)).any (·.1)=false:=by rfl) :
  PE X (.Call (.Attribute o name apos) (e::es) [] cpos) (tBM X.K T r to t):=by
 intro pins s σ H Q I h;refine wpAny_Call_method_late hbase hfew hline rfl (thn (ho pins s σ H _ I h) fun v s1 ⟨x,H1,I1,r1,ty,q1⟩=>?_);obtain⟨h1,h2⟩:=tyV_is I1 r1 ty;refine⟨T,id,pa,slot,hty,h1,h2,?_⟩;have hA:=ha cpos pins s1 σ H1 _ I1 q1;rw [hs] at hA ⊢;refine Calls.callWith_builtin (by show (false||(backTo cpos (starEach es X.env)).any (·.1))=false;rw [hplain] <;> rfl) (Calls.evalArgs_plain ?_);exact thn hA fun us s2 ⟨vs,H2,I2,r2,q2⟩=>hm pins s2 σ H2 x vs v us Q I2 r1 r2 q2
end
end L2
namespace L2
open PySem PySem.Spec PyProof.Rows
def MtM (X:Cx) (id:String) (r:V→List V→Hp→VK→Prop):Prop :=
 ∀(pins:List (Addr×Obj)) (s:Shared) (σ : St) (H:Hp) (x:V) (xs:List V) (v:Value) (us:List Value) (Q:VK),Inv X pins σ H s→RelV x v→Vals xs us→r x xs H Q→
  wpAny (model X.prog X.w) X.A (call (.builtin id) (v::us)) (EP X pins σ Q) X.xe s
theorem Vals.one:∀{x:V} {us:List Value},Vals [x] us→∃u,us=[u]∧RelV x u
 | _,_,.cons r .nil=>⟨_,rfl,r⟩
theorem Vals.rep {xs:List V} {us:List Value} (h:Vals xs us):∀k:Nat,Vals (List.replicate k xs).flatten (List.replicate k us).flatten
 | 0 => .nil
 | k+1=>by
  rw [List.replicate_succ,List.replicate_succ,List.flatten_cons,List.flatten_cons];exact Vals.append h (Vals.rep h k)
theorem nUz (its:List Value):∀(k:Nat) (acc:List Value),
  List.foldl (fun x1 x2=>x1++x2) acc.toArray (List.replicate k its.toArray)=(acc++(List.replicate k its).flatten).toArray
 | 0,acc=>by simp
 | k+1,acc=>by
  have e:acc.toArray++its.toArray=(acc++its).toArray:=by simp
  have e2:(acc++its)++(List.replicate k its).flatten=acc++(List.replicate (k+1) its).flatten:=by
   rw [List.replicate_succ,List.flatten_cons,List.append_assoc]
  rw [← e2,← nUz its k (acc++its),← e,List.replicate_succ,List.foldl_cons]
section
variable {X:Cx} {pins:List (Addr×Obj)} {σ : St} {H:Hp} {s:Shared} {l b:Addr} {xs ys zs:List V}
theorem Inv.lset {its its':List Value} {n:Nat} {f:Array Value→Array Value} {t':Nat} (I:Inv X pins σ H s) (hH:H l=some (.lst xs))
  (e:s.heap.get? l=some {cls := .type "list",data := .seq its.toArray n}) (hf:f its.toArray=its'.toArray) (hv:Vals ys its') (hz:ys.length≤sizeLine) :
  Inv X pins σ (upd H l (.lst ys)) {s with heap:=s.heap.update l (Obj.mapSeq f),toks:=t'}:=by
 have q:=PySem.IsL.update e f;rw [hf] at q;refine I.write (x:=l) (e:=l) (by rw [hH];exact trivial) (.inl rfl) (fun b' u hb hu=>(Heap.get?_update_other s.heap (Obj.mapSeq f) (Ne.symm hb)).trans hu) ⟨_,q⟩ ?_;exact⟨hz,its',_,hv,q⟩
theorem Inv.lnew {its:List Value} {t':Nat} (I:Inv X pins σ H s) (hv:Vals ys its) (hz:ys.length≤sizeLine) :
  Inv X pins σ (upd H s.heap.objs.size (.lst ys)) {s with heap:=s.heap.push {cls := .type "list",data := .seq its.toArray},toks:=t'} :=
 I.laid (fun _ _ q=>Heap.get?_push_of_some _ q) (Nat.le_refl _) ⟨hz,its,0,hv,Heap.get?_push_size _ rfl⟩
theorem Inv.fresh (I:Inv X pins σ H s):H s.heap.objs.size=none:=I.hok.fresh (Nat.le_refl _)
theorem Inv.lstM (I:Inv X pins σ H s) (hH:H l=some (.lst xs)):xs.length≤sizeLine∧∃(its:List Value) (n:Nat),Vals xs its∧xs.length=its.length∧s.heap.get? l=some {cls := .type "list",data := .seq its.toArray n}:=by
 obtain⟨z,its,n,r,e⟩:=I.hok l _ hH;exact⟨z,its,n,r,r.length,e⟩
theorem notLongL {n:Nat} (h:n≤sizeLine):Builtin.List.listTooLong n=false:=by
 unfold Builtin.List.listTooLong;exact decide_eq_false (by omega)
end
section
variable {X:Cx}
inductive rAppend (x:V) (vs:List V) (H:Hp) (Q:VK):Prop
 | mk (l xs y) (_:x = .ref l) (_:vs=[y]) (_:H l=some (.lst xs)) (_:xs.length<sizeLine) (_:Q .non (upd H l (.lst (xs++[y])))):rAppend x vs H Q
theorem hJ:MtM X "list.append" rAppend:=by
 intro pins s σ H x vs v us Q I rx rv h;obtain⟨l,xs,y,rfl,rfl,hH,hz,q⟩:=h;cases rx;obtain⟨u,rfl,ru⟩:=rv.one;obtain⟨z,its,n,r,hl,e⟩:=I.lstM hH;refine call_meets F.slot_list_append ⟨_,e,rfl⟩ F.entry_list_append (F.args_list_append_2 _ _) (PySem.list_append l its.toArray n u (by rw [List.size_toArray];omega)) ⟨e,?_⟩;refine⟨.non,_,I.lset (its':=its++[u]) hH e (by simp) (r.append (.cons ru .nil)) ?_,rfl,q⟩;rw [List.length_append,List.length_singleton];omega
def rExtend:V→List V→Hp→VK→Prop:=fun x vs H Q=>∃l b xs zs,x = .ref l∧vs=[.ref b]∧H l=some (.lst xs)∧H b=some (.lst zs)∧xs.length+zs.length≤sizeLine∧Q .non (upd H l (.lst (xs++zs)))
theorem dZ:MtM X "list.extend" rExtend:=by
 intro pins s σ H x vs v us Q I rx rv h;obtain⟨l,b,xs,zs,rfl,rfl,hH,hB,hz,q⟩:=h;cases rx;obtain⟨u,rfl,ru⟩:=rv.one;cases ru;obtain⟨z,its,n,r,hl,e⟩:=I.lstM hH;obtain⟨z2,its2,n2,r2,hl2,e2⟩:=I.lstM hB;have hsz:its.toArray.size+its2.toArray.size≤sizeLine:=by rw [List.size_toArray,List.size_toArray];omega
 have hlong:¬ (!its.toArray.isEmpty&&Builtin.List.listTooLong (its.toArray.size+its2.toArray.size))=true:=by
  rw [notLongL hsz,Bool.and_false];exact Bool.false_ne_true
 refine call_meets F.slot_list_extend ⟨_,e,rfl⟩ F.entry_list_extend (F.args_list_extend_2 _ _)
  (AutoSeq1.list_extend_list_list_0 l its.toArray n b its2.toArray n2 hlong (by rw [List.size_toArray];omega) (by omega)) ⟨e,e2,?_⟩
 refine⟨.non,_,I.lset (its':=its++its2) hH e (by simp) (r.append r2) ?_,rfl,q⟩;rw [List.length_append];omega
def rCat:R2:=fun x y H Q=>∃l b xs zs,x = .ref l∧y = .ref b∧H l=some (.lst xs)∧H b=some (.lst zs)∧xs.length+zs.length≤sizeLine∧∀p,H p=none→Q (.ref p) (upd H p (.lst (xs++zs)))
theorem eOz:OpR X (binaryOp .Add) rCat:=by
 intro pins s σ H x y v u Q I rx ry h;obtain⟨l,b,xs,zs,rfl,rfl,hH,hB,hz,q⟩:=h;cases rx;cases ry;obtain⟨z,its,n,r,hl,e⟩:=I.lstM hH;obtain⟨z2,its2,n2,r2,hl2,e2⟩:=I.lstM hB;refine PySem.P.add_list e e2 ?_ (by rw [List.size_toArray,List.size_toArray];omega);have ea:its.toArray++its2.toArray=(its++its2).toArray:=by simp
 rw [ea];exact⟨.ref _,_,I.lnew (t':=s.toks) (r.append r2) (by rw [List.length_append];omega),rfl,q _ I.fresh⟩
def rRep:R2:=fun x y H Q=>∃l k xs,x = .ref l∧y = .int k∧H l=some (.lst xs)∧-(2 ^ 63)≤k∧k<2 ^ 63∧xs.length*k.toNat≤sizeLine∧
 ∀p,H p=none→Q (.ref p) (upd H p (.lst (List.replicate k.toNat xs).flatten))
theorem xBz {α : Type} (xs:List α) (k:Nat):(List.replicate k xs).flatten.length=k*xs.length:=by
 induction k with
 | zero=>simp
 | succ k ih=>rw [List.replicate_succ,List.flatten_cons,List.length_append,ih,Nat.succ_mul,Nat.add_comm]
theorem op_rep:OpR X (binaryOp .Mult) rRep:=by
 intro pins s σ H x y v u Q I rx ry h;obtain⟨l,k,xs,rfl,rfl,hH,h1,h2,hz,q⟩:=h;cases rx;obtain⟨t,rfl⟩:=ry;obtain⟨z,its,n,r,hl,e⟩:=I.lstM hH;have hlen:its.toArray.size*k.toNat≤sizeLine:=by rw [List.size_toArray,← hl];exact hz
 have hcap:¬ its.toArray.size*k.toNat > (2 ^ 63-1)/8:=by
  have:(sizeLine:Nat)≤(2 ^ 63-1)/8:=by decide
  omega
 have hfit:¬ (!Builtin.List.listFitsIndex k)=true:=by
  rw [fitsIndex_both h1 h2];exact Bool.false_ne_true
 have hlong:¬ Builtin.List.listTooLong (its.toArray.size*k.toNat)=true:=by
  rw [notLongL hlen];exact Bool.false_ne_true
 have hnew:List.foldl (fun x1 x2=>x1++x2) #[] (List.replicate (if its.toArray.isEmpty=true then 0 else k.toNat) its.toArray)=(List.replicate k.toNat its).flatten.toArray:=by
  have f0:∀m:Nat,List.foldl (fun x1 x2=>x1++x2) #[] (List.replicate m its.toArray)=(List.replicate m its).flatten.toArray:=fun m=>by
   have:=nUz its m []
   rw [List.nil_append] at this;exact this
  rw [f0];cases its with
  | nil=>simp
  | cons a r'=>rw [if_neg (by simp)]
 refine wpAny_binaryOp_repeat_ref (T := "list") (U := "int") (by decide) ⟨_,e,rfl⟩ (fun s'=>typeIs_int s' k t) noFill_list_mul F.fills_int_mul F.slot_int_rmul repeat_list F.slot_int_index.lookup
  (call_meets F.slot_int_rmul (typeIs_int s k t) F.entry_int_rmul (F.args_int_rmul_2 _ _) (int___rmul___int_list k t l its.toArray n)
   ⟨e,rfl,⟨_,e,rfl⟩,call_meets F.slot_list_mul ⟨_,e,rfl⟩ F.entry_list_mul (F.args_list_mul_2 _ _) (AutoListH.list___mul___list_int_3 l its.toArray n k t hfit hcap hlong) ⟨e,?_⟩⟩)
 rw [hnew];exact⟨.ref _,_,I.lnew (t':=s.toks) (r.rep k.toNat) (by rw [xBz,Nat.mul_comm];exact hz),rfl,q _ I.fresh⟩
end
section
variable {prog:Program} {w:World} {A:Around} {E:Value→Shared→Prop} {s:Shared}
end
section
variable {X:Cx}
end
end L2
namespace L2
open PySem PySem.Spec PyProof.Rows
theorem Vals.ints:∀{ns:List Int} {us:List Value},Vals (ns.map V.int) us→IntsAre us ns
 | [],us,h=>by
  rw [List.map_nil] at h;cases h;exact IntsAre.nil
 | n::ns,us,h=>by
  rw [List.map_cons] at h;cases h with
  | cons r t =>
   obtain⟨k,rfl⟩:=r;exact IntsAre.cons n k (Vals.ints t)
theorem Vals.ref1 {a:Addr} {us:List Value} (r:Vals [V.ref a] us):us=[Value.ref a]:=by
 cases r with
 | cons r t =>
  cases t;cases r;rfl
section
variable {prog:Program} {w:World} {A:Around} {E:Value→Shared→Prop} {s:Shared} {l:Addr} {its:List Value} {ns:List Int} {Q:Value→Shared→Prop}
theorem BCz (hh:A.handled=none) (hl:s.heap.IsList l its.toArray) (hi:IntsAre its ns)
  (h:∀h' tk t',(∀b o,s.heap.get? b=some o→h'.get? b=some o)→Q (.int ns.sum t') {s with heap:=h',toks:=tk}):wpAny (model prog w) A (call (.builtin "sum") [.ref l]) Q E s:=by
 obtain⟨xs,e⟩:=hi.allInts.items;have hn:numsOf (intItems xs).toList=ns:=by rw [← e];exact hi.numsOf
 rw [nums_intItems] at hn;rw [e] at hl;refine PySem.sum_intListG hh hl fun h' tk t' hk=>?_
 have:=h h' tk t' hk
 rw [preSum_eq,List.take_of_length_le (by simp),hn];exact this
end
section
variable {X:Cx}
def rSum (K:W.Frag):List V→Hp→VK→Prop:=fun vs H Q=>∃(a:Addr) (ns:List Int),vs=[V.ref a]∧SqL K H a (ns.map V.int)∧Q (.int ns.sum) H
theorem fWz (hc:X.calm=true):hKz X (.builtin "sum") (rSum X.K):=by
 intro pins s σ H vs us Q I r h;obtain⟨a,ns,rfl,hs,q⟩:=h;obtain⟨its,rv,hl,_⟩:=I.list hs;rw [Vals.ref1 r];exact BCz (I.ok.hd hc) hl.isList rv.ints fun h' tk t' hk=>⟨.int _,H,I.kept hk,⟨_,rfl⟩,q⟩
end
section
variable {X:Cx}
end
section
variable {X:Cx}
end
section
variable {X:Cx}
end
mutual
inductive Dp (K:W.Frag) (H:Hp):V→PyData→Prop
 | non:Dp K H .non .none
 | bl (b:Bool):Dp K H (.bl b) (.bool b)
 | int (i:Int):Dp K H (.int i) (.int i)
 | str (x:Str):Dp K H (.str x) (.str x)
 | lst {a:Addr} {xs:List V} {ds:List PyData}:SqL K H a xs→u3z K H xs ds→Dp K H (.ref a) (.list ds)
 | tup {a:Addr} {xs:List V} {ds:List PyData}:SqT K H a xs→u3z K H xs ds→Dp K H (.ref a) (.tuple ds)
inductive u3z (K:W.Frag) (H:Hp):List V→List PyData→Prop
 | nil:u3z K H [] []
 | cons {v:V} {vs:List V} {d:PyData} {ds:List PyData}:Dp K H v d→u3z K H vs ds→u3z K H (v::vs) (d::ds)
end
section
variable {X:Cx} {pins:List (Addr×Obj)} {σ : St} {H:Hp} {s:Shared}
mutual
theorem Dp.reads (I:Inv X pins σ H s):∀(d:PyData) (v:V) (u:Value),Dp X.K H v d→RelV v u→∃as,Reads s.heap u d as
 | .none,_,_,h,r=>by
  cases h;cases r;exact⟨_,Reads.none⟩
 | .bool b,_,_,h,r=>by
  cases h;cases r;exact⟨_,Reads.bool b⟩
 | .int i,_,_,h,r=>by
  cases h;obtain⟨t,rfl⟩:=r;exact⟨_,Reads.int i t⟩
 | .str x,_,_,h,r=>by
  cases h;obtain⟨t,rfl⟩:=r;exact⟨_,Reads.str x t⟩
 | .list ds,_,_,h,r=>by
  cases h with
  | lst hs ha =>
   cases r;obtain⟨its,rv,⟨o,n,ho,hc,_,hd⟩,_⟩:=I.list hs;obtain⟨as,hr⟩:=Dp.readsAll I ds _ its ha rv;exact⟨_,Reads.list ho hc hd hr⟩
 | .tuple ds,_,_,h,r=>by
  cases h with
  | tup hs ha =>
   cases r;obtain⟨its,rv,⟨o,ho,hc,n,hd⟩,_⟩:=I.tuple hs;obtain⟨as,hr⟩:=Dp.readsAll I ds _ its ha rv;exact⟨_,Reads.tuple ho hc hd hr⟩
 | .dict _,_,_,h,_=>by cases h
theorem Dp.readsAll (I:Inv X pins σ H s):∀(ds:List PyData) (vs:List V) (us:List Value),u3z X.K H vs ds→Vals vs us→∃as,ReadsAll s.heap us ds as
 | [],_,_,h,r=>by
  cases h;cases r;exact⟨_,ReadsAll.nil⟩
 | d::ds,_,_,h,r=>by
  cases h with
  | cons h1 h2 =>
   cases r with
   | cons r1 r2 =>
    obtain⟨as,q1⟩:=Dp.reads I d _ _ h1 r1;obtain⟨bs,q2⟩:=Dp.readsAll I ds _ _ h2 r2;exact⟨_,ReadsAll.cons q1 q2⟩
end
end
section
variable {X:Cx}
end
end L2
namespace L2
open PySem PySem.Spec PyProof.Rows
abbrev A6z (h:Heap) (c:Addr) (v:Option Value):Prop:=h.IsCell c v
def relS (scope sc:Scope):Scope :=
 {scope with names:=scope.names.map fun (n,k)=>if (k == .free&&sc.kind == .function&&sc.names.lookup n == some .cell) then (n,.cell) else (n,k)}
def cloFrom (cells:List (Str×Addr)):List (Str×NameKind)→List (Str×Addr)→List (Str×Addr)
 | [],acc=>acc
 | (n,k)::r,acc=>if k == .free then cloFrom cells r ((n,(cells.lookup n).getD 0)::acc) else cloFrom cells r acc
theorem bSz (env:Env) (f:Str×NameKind→List (Str×Addr)→Sem (ForInStep (List (Str×Addr))))
  (hf:∀n k c,f (n,k) c=if k == .free then (do let a ← cellOf env n;pure (.yield ((n,a)::c))) else pure (.yield c)) :
  ∀(names:List (Str×NameKind)) (acc:List (Str×Addr)),(∀y∈names,y.2 = .free→∃c,env.cells.lookup y.1=some c)→forIn names acc f=pure (cloFrom env.cells names acc)
 | [],acc,_=>by rw [List.forIn_nil];rfl
 | (n,k)::r,acc,h=>by
  rw [List.forIn_cons,hf];have ih:=fun acc=>bSz env f hf r acc fun y hy=>h y (List.mem_cons_of_mem _ hy);unfold cloFrom
  by_cases hk:(k == NameKind.free)=true
  ·rw [if_pos hk,if_pos hk]
   obtain⟨c,hc⟩:=h (n,k) List.mem_cons_self (by simpa using hk);have e:cellOf env n=pure c:=by unfold cellOf;rw [hc]
   rw [e];have e2:(env.cells.lookup n).getD 0=c:=by rw [hc];rfl
   rw [e2];exact ih _
  ·rw [if_neg hk,if_neg hk]
   exact ih _
theorem uTz {scope:Scope} {env:Env} (h:∀y∈scope.names,y.2 = .free→∃c,env.cells.lookup y.1=some c):closureFor scope env=pure (cloFrom env.cells scope.names []):=by
 simp only [closureFor];rw [bSz env _ (fun n k c=>rfl) scope.names [] h];rfl
theorem zV {α : Type}:∀{l:List (Str×α)} {n:Str} {c : α},(n,c)∈l→∃c',l.lookup n=some c'
 | (k,v)::r,n,c,h=>by
  rw [List.lookup_cons];cases hb:n == k with
  | true=>exact⟨_,rfl⟩
  | false =>
   rcases List.mem_cons.mp h with e | h
   ·cases e;simp at hb
   ·exact zV h
theorem qO {cells:List (Str×Addr)}:∀{names:List (Str×NameKind)} {acc:List (Str×Addr)} {n:Str} {c:Addr},(n,c)∈cloFrom cells names acc→(n,c)∈acc∨((n,.free)∈names∧c=(cells.lookup n).getD 0)
 | [],_,_,_,h => .inl h
 | (m,k)::r,acc,n,c,h=>by
  unfold cloFrom at h;split at h
  ·rename_i hk
   have hk:k = .free:=by simpa using hk
   rcases qO h with h | ⟨h1,h2⟩
   ·rcases List.mem_cons.mp h with e | h
    ·cases e;exact .inr ⟨hk ▸ List.mem_cons_self,rfl⟩
    ·exact .inl h
   ·exact .inr ⟨List.mem_cons_of_mem _ h1,h2⟩
  ·rcases qO h with h | ⟨h1,h2⟩
   ·exact .inl h
   ·exact .inr ⟨List.mem_cons_of_mem _ h1,h2⟩
theorem wU {cells:List (Str×Addr)}:∀{names:List (Str×NameKind)} {acc:List (Str×Addr)} {p:Str×Addr},p∈acc→p∈cloFrom cells names acc
 | [],_,_,h=>h
 | (m,k)::r,acc,p,h=>by
  unfold cloFrom;split
  ·exact wU (List.mem_cons_of_mem _ h)
  ·exact wU h
theorem wT {cells:List (Str×Addr)}:∀{names:List (Str×NameKind)} {acc:List (Str×Addr)} {n:Str},(n,.free)∈names→(n,(cells.lookup n).getD 0)∈cloFrom cells names acc
 | (m,k)::r,acc,n,h=>by
  unfold cloFrom;rcases List.mem_cons.mp h with e | h
  ·cases e
   exact wU List.mem_cons_self
  ·split
   ·exact wT h
   ·exact wT h
theorem tD:∀{names:List (Str×NameKind)} {h:Heap} {acc:List (Str×Addr)} {x:Str} {c:Addr},(x,c)∈cellsFrom h.objs.size names acc→
  (x,c)∈acc∨((x,.cell)∈names∧h.objs.size≤c∧A6z (pushCells h names) c none)
 | [],_,_,_,_,h => .inl h
 | (n,k)::r,h,acc,x,c,hm=>by
  unfold cellsFrom at hm;unfold pushCells;split at hm
  ·rename_i hk
   rw [if_pos hk];have hk:k = .cell:=by simpa using hk
   rw [← Heap.size_push h {cls := .type "cell",data := .cell none}] at hm;rcases tD hm with hm | ⟨h1,h2,h3⟩
   ·rcases List.mem_cons.mp hm with e | hm
    ·cases e
     exact .inr ⟨hk ▸ List.mem_cons_self,Nat.le_refl _,_,pushCells_keeps r _ _ _ (Heap.get?_push_size _ rfl),rfl⟩
    ·exact .inl hm
   ·rw [Heap.size_push] at h2
    exact .inr ⟨List.mem_cons_of_mem _ h1,Nat.le_of_succ_le h2,h3⟩
  ·rename_i hk
   rw [if_neg hk];rcases tD hm with hm | ⟨h1,h2,h3⟩
   ·exact .inl hm
   ·exact .inr ⟨List.mem_cons_of_mem _ h1,h2,h3⟩
theorem yQ:∀{names:List (Str×NameKind)} {n:Nat} {acc:List (Str×Addr)} {p:Str×Addr},p∈acc→p∈cellsFrom n names acc
 | [],_,_,_,h=>h
 | (m,k)::r,n,acc,p,h=>by
  unfold cellsFrom;split
  ·exact yQ (List.mem_cons_of_mem _ h)
  ·exact yQ h
theorem fYz:∀{names:List (Str×NameKind)} {n:Nat} {acc:List (Str×Addr)} {x:Str},(x,.cell)∈names→∃c,(x,c)∈cellsFrom n names acc
 | (m,k)::r,n,acc,x,h=>by
  unfold cellsFrom;rcases List.mem_cons.mp h with e | h
  ·cases e
   exact⟨n,yQ List.mem_cons_self⟩
  ·split
   ·exact fYz h
   ·exact fYz h
theorem fXz:∀{names:List (Str×NameKind)} {h:Heap} {acc:List (Str×Addr)} {x y:Str} {c:Addr},(∀p∈acc,p.2<h.objs.size)→(∀x y c,(x,c)∈acc→(y,c)∈acc→x=y)→
  (x,c)∈cellsFrom h.objs.size names acc→(y,c)∈cellsFrom h.objs.size names acc→x=y
 | [],_,_,_,_,_,_,hi,h1,h2=>hi _ _ _ h1 h2
 | (n,k)::r,h,acc,x,y,c,hl,hi,h1,h2=>by
  unfold cellsFrom at h1 h2;split at h1
  ·rename_i hk
   rw [if_pos hk] at h2;rw [← Heap.size_push h {cls := .type "cell",data := .cell none}] at h1 h2;refine fXz (h:=h.push _) (fun p hp=>?_) (fun x y c a b=>?_) h1 h2
   ·rw [Heap.size_push]
    rcases List.mem_cons.mp hp with rfl | hp
    ·exact Nat.lt_succ_self _
    ·exact Nat.lt_succ_of_lt (hl p hp)
   ·rcases List.mem_cons.mp a with e | a <;> rcases List.mem_cons.mp b with e' | b
    ·cases e;cases e';rfl
    ·cases e;exact absurd (hl _ b) (Nat.lt_irrefl _)
    ·cases e';exact absurd (hl _ a) (Nat.lt_irrefl _)
    ·exact hi _ _ _ a b
  ·rename_i hk
   rw [if_neg hk] at h2;exact fXz hl hi h1 h2
theorem pMz {M:Model} {A:Around} {E:Value→Shared→Prop} {s:Shared} {scope:Scope} {globals:Addr} {closure:List (Str×Addr)} {qual:Str} {func:Option Addr} {code:Value} {around:Env} {builtins:Addr} {Q:Env→Shared→Prop}
  (h:Q (newEnv scope s.heap.objs.size globals (cellsFrom (s.heap.objs.size+1) scope.names closure) qual func code (some around) builtins)
   {s with heap:=pushCells (s.heap.push {cls := .type "dict",data := .dict #[]}) scope.names}) :
  wpAny M A (newFunctionEnv scope globals closure [] qual func code (some around) builtins) Q E s:=by
 simp only [newFunctionEnv,Option.isSome_some,if_true];refine wpAny_bind (wpAny_alloc ?_);refine wpAny_bind (wpAny_layCells _ (fun n k c=>rfl) scope.names closure _ _ ?_);rw [show ({s with heap:=s.heap.push {cls := .type "dict",data := .dict #[]}}:Shared).heap.objs.size=s.heap.objs.size+1 from Heap.size_push ..];rw [List.forIn_nil];exact wpAny_bind (wpAny_pure (wpAny_pure h))
theorem wA {sc:Scope}:∀{names:List (Str×NameKind)} {x:Str} {k:NameKind},
  (names.map fun (n,k)=>if (k == NameKind.free&&sc.kind == .function&&sc.names.lookup n == some .cell) then (n,NameKind.cell) else (n,k)).lookup x=some k→
  ∃k',names.lookup x=some k'∧(k=k'∨(k' = .free∧k = .cell))
 | [],_,_,h=>by simp at h
 | (n,k₀)::r,x,k,h=>by
  have ih := @wA sc r x k;have h':List.lookup x ((if (k₀ == NameKind.free&&sc.kind == .function&&sc.names.lookup n == some .cell)=true then (n,NameKind.cell) else (n,k₀))::(r.map _))=some k:=h;cases hx:x == n with
  | true =>
   simp only [List.lookup_cons,hx]
   by_cases hc:(k₀ == NameKind.free&&sc.kind == .function&&sc.names.lookup n == some .cell)=true
   ·rw [if_pos hc] at h'
    simp only [List.lookup_cons,hx] at h';cases h';simp only [Bool.and_eq_true,beq_iff_eq] at hc;exact⟨k₀,rfl,.inr ⟨hc.1.1,rfl⟩⟩
   ·rw [if_neg hc] at h'
    simp only [List.lookup_cons,hx] at h';cases h';exact⟨_,rfl,.inl rfl⟩
  | false =>
   simp only [List.lookup_cons,hx]
   by_cases hc:(k₀ == NameKind.free&&sc.kind == .function&&sc.names.lookup n == some .cell)=true
   ·rw [if_pos hc] at h'
    simp only [List.lookup_cons,hx] at h';exact ih h'
   ·rw [if_neg hc] at h'
    simp only [List.lookup_cons,hx] at h';exact ih h'
structure ABz (N:List Str) (sc scope:Scope) (own:List (Str×Nat)):Prop where
 kind:scope.kind = .function
 uniq:∀y∈scope.names,scope.names.lookup y.1=some y.2
 ix:∀p∈own,N[p.2]?=some p.1
 free:∀y∈scope.names,y.2 = .free→sc.names.lookup y.1=some .cell∨sc.names.lookup y.1=some .free
 own:∀y∈scope.names,y.2 = .local∨y.2 = .cell→y.1∈own.map (·.1)∨y.1∉N
def wipe (σ : St):List Nat→St
 | [] => σ
 | v::vs=>(wipe σ vs).set v none
theorem vH (σ : St):∀vs:List Nat,(wipe σ vs).length = σ.length
 | []=>rfl
 | v::vs=>by unfold wipe;rw [List.length_set,vH σ vs]
theorem dCz {σ : St} {i:Nat} {x:V}:∀{vs:List Nat},(wipe σ vs)[i]?=some (some x)→σ[i]?=some (some x)∧i∉vs
 | [],h=>⟨h,by simp⟩
 | v::vs,h=>by
  unfold wipe at h
  by_cases hi:v=i
  ·subst hi
   by_cases hv:v<(wipe σ vs).length
   ·rw [List.getElem?_set_self hv] at h;cases h
   ·rw [List.getElem?_eq_none (by simpa using hv)] at h;cases h
  ·rw [List.getElem?_set_ne hi] at h
   obtain⟨h1,h2⟩:=dCz h;exact⟨h1,by simp only [List.mem_cons,not_or];exact⟨fun e=>hi e.symm,h2⟩⟩
abbrev Cx.blk (X:Cx) (s:Shared) (H:Hp) (scope:Scope) (cenv:Env) (fp:List Addr):Cx:={X with s_0:=s,H_0:=H,env:=cenv,outer:=X.stack,ex:=fp,fn:=fun x=>scope.names.lookup x == some .cell,pn:=[],xe:=fun _ _=>False}
section
variable {X:Cx} {pins:List (Addr×Obj)} {σ : St} {H:Hp} {s:Shared}
theorem qHz {scope:Scope} {own:List (Str×Nat)} {fp:List Addr} (I:Inv X pins σ H s) (ok:ABz X.N X.env.scope scope own) (hN:X.N.Nodup) (hfp:∀b∈fp,FpOk X pins H b∧b<s.heap.objs.size) :
  Inv (X.blk s H scope (compEnvC scope (cellsFrom (s.heap.objs.size+1) scope.names (cloFrom X.env.cells scope.names [])) s.heap.objs.size X.env) fp) [] (wipe σ (own.map (·.2))) H {s with heap:=pushCells (s.heap.push {cls := .type "dict",data := .dict #[]}) scope.names}:=by
 have hfree:∀y∈scope.names,y.2 = .free→∃c,X.env.cells.lookup y.1=some c:=fun y hy e=>by
  rcases ok.free y hy e with k | k
  ·exact I.ok.has _ (.inl k)
  ·exact I.ok.has _ (.inr k)
 generalize hcenv:compEnvC scope (cellsFrom (s.heap.objs.size+1) scope.names (cloFrom X.env.cells scope.names [])) s.heap.objs.size X.env=cenv;have kp:∀b o,s.heap.get? b=some o→(pushCells (s.heap.push {cls := .type "dict",data := .dict #[]}) scope.names).get? b=some o:=fun b o e=>pushCells_keeps _ _ _ _ (Heap.get?_push_of_some _ e);have hL:cenv.locals=s.heap.objs.size:=by rw [← hcenv];rfl
 have hcl:cenv.cells=cellsFrom (s.heap.objs.size+1) scope.names (cloFrom X.env.cells scope.names []):=by rw [← hcenv];rfl
 have hsc:cenv.scope=relS scope X.env.scope:=by rw [← hcenv];rfl
 rw [← Heap.size_push s.heap {cls := .type "dict",data := .dict #[]}] at hcl;have cm:∀{y c},(y,c)∈cloFrom X.env.cells scope.names []→X.env.cells.lookup y=some c∧c<s.heap.objs.size:=fun {y c} hm=>by
  rcases qO hm with hm | ⟨h1,rfl⟩
  ·cases hm
  ·obtain⟨c,hc⟩:=hfree _ h1 rfl
   rw [hc];obtain⟨w,z⟩:=I.cell _ _ hc;exact⟨rfl,z.lt⟩
 have mem:∀{y c},cenv.cells.lookup y=some c→(X.env.cells.lookup y=some c∧c<s.heap.objs.size)∨(s.heap.objs.size+1≤c∧A6z (pushCells (s.heap.push {cls := .type "dict",data := .dict #[]}) scope.names) c none):=fun {y c} e=>by
  rw [hcl] at e;rcases tD (PySem.mem_of_lookup e) with hm | ⟨_,h2,h3⟩
  ·exact .inl (cm hm)
  ·rw [Heap.size_push] at h2;exact .inr ⟨h2,h3⟩
 have look:∀{y},scope.names.lookup y=some .free→∃c,cenv.cells.lookup y=some c∧X.env.cells.lookup y=some c:=fun {y} hl=>by
  have hy:(y,NameKind.free)∈scope.names:=PySem.mem_of_lookup hl;obtain⟨c',e'⟩:=zV (yQ (names:=scope.names) (n:=(s.heap.push {cls := .type "dict",data := .dict #[]}).objs.size) (wT (cells:=X.env.cells) (acc:=[]) hy));rw [← hcl] at e';refine⟨c',e',?_⟩;rw [hcl] at e';rcases tD (PySem.mem_of_lookup e') with hm | ⟨h1,_,_⟩
  ·exact (cm hm).1
  ·have:=ok.uniq _ h1
   rw [hl] at this;cases this
 have okB:(X.blk s H scope cenv fp).Ok:=by
  refine⟨I.ok.mod,by show cenv.scope.kind=_;rw [hsc];exact ok.kind,by show cenv.globals=_;rw [← hcenv];exact I.ok.glob,by show cenv.builtins=_;rw [← hcenv];exact I.ok.blt,by show s.heap.objs.size≤cenv.locals;rw [hL];exact Nat.le_refl _,
   fun y z c e1 e2=>?_,fun y hy=>?_,fun y c z e=>?_,I.ok.hd,I.ok.frames,.inl rfl,fun b hb=>⟨?_,fun y c e z=>?_⟩,I.bs,Nat.le_trans I.ok.bsz I.sz,fun b o e hb=>?_,fun b hb z=>?_,I.stack,I.stkFree⟩
  ·have e1:cenv.cells.lookup y=some c:=e1
   have e2:cenv.cells.lookup z=some c:=e2;rw [hcl] at e1 e2;refine fXz (fun p hp=>?_) (fun y z c a b=>I.ok.inj y z c (cm a).1 (cm b).1) (PySem.mem_of_lookup e1) (PySem.mem_of_lookup e2);rw [Heap.size_push];exact Nat.lt_succ_of_lt (cm (y:=p.1) (c:=p.2) hp).2
  ·show ∃c,cenv.cells.lookup y=some c
   have key:∀k,cenv.kindOf y=some k→(k = .cell∨k = .free)→∃c,cenv.cells.lookup y=some c:=fun k hk hk'=>by
    unfold Env.kindOf at hk;rw [hsc] at hk;obtain⟨k',e,r⟩:=wA hk
    have:k' = .cell∨k' = .free:=by
     rcases r with rfl | ⟨rfl,_⟩
     ·exact hk'
     ·exact .inr rfl
    rcases this with rfl | rfl
    ·obtain⟨c,hm⟩:=fYz (n:=(s.heap.push {cls := .type "dict",data := .dict #[]}).objs.size) (acc:=cloFrom X.env.cells scope.names []) (PySem.mem_of_lookup e)
     obtain⟨c',e'⟩:=zV hm;exact⟨c',by rw [hcl];exact e'⟩
    ·obtain⟨c,h1,_⟩:=look e
     exact⟨c,h1⟩
   rcases hy with hy | hy
   ·exact key _ hy (.inl rfl)
   ·exact key _ hy (.inr rfl)
  ·have z:(scope.names.lookup y == some NameKind.cell)=true:=z
   have z:scope.names.lookup y=some .cell:=by simpa using z
   have e:cenv.cells.lookup y=some c:=e;rw [hcl] at e;rcases tD (PySem.mem_of_lookup e) with hm | ⟨_,h2,_⟩
   ·rcases qO hm with hm | ⟨h1,_⟩
    ·cases hm
    ·have q:=ok.uniq _ h1
     rw [z] at q;cases q
   ·rw [Heap.size_push] at h2
    exact Nat.le_of_succ_le h2
  ·show b≠cenv.locals
   rw [hL];exact Nat.ne_of_lt (hfp b hb).2
  ·have e:cenv.cells.lookup y=some c:=e
   rcases mem e with ⟨h1,_⟩ | ⟨h1,_⟩
   ·exact (hfp b hb).1.2.2.2.2.1 y c h1 z
   ·have h2:s.heap.objs.size+1≤b:=by rw [← z];exact h1
    exact absurd (Nat.lt_of_lt_of_le (hfp b hb).2 (Nat.le_of_succ_le h2)) (Nat.lt_irrefl _)
  ·rcases (hfp b hb).1.2.2.2.1 with z | z
   ·exact I.ok.noex b o e z
   ·exact absurd (Nat.lt_of_lt_of_le (Heap.lt_size e) (Nat.le_trans I.ok.bsz z)) (Nat.lt_irrefl _)
  ·rcases List.mem_cons.mp (I.stkSub b z) with z | z
   ·exact (hfp b hb).1.2.1 z
   ·exact (hfp b hb).1.2.2.1 z
 refine⟨okB,rfl,I.bare,Un.kept kp,⟨fun _=>none,?_,fun i y av e1 e2 e3=>?_⟩,fun y c e=>?_,?_,fun y c e=>?_,fun p hp=>?_,I.hok.kept kp,by rw [vH];exact I.len⟩
 ·show Heap.Ns _ cenv.locals _
  rw [hL];exact Heap.Ns.keeps (Heap.Ns.new ..) fun b o e=>pushCells_keeps _ _ _ _ e
 ·obtain⟨e2,hne⟩:=dCz e2
  have hfr:scope.names.lookup y=some .free∧(cenv.kindOf y=some .cell∨cenv.kindOf y=some .free):=by
   have key:∀k,cenv.scope.names.lookup y=some k→k = .local∨k = .cell∨k = .free→scope.names.lookup y=some .free∧(cenv.kindOf y=some .cell∨cenv.kindOf y=some .free):=fun k hk hk'=>by
    have hk0:=hk;rw [hsc] at hk;obtain⟨k',e,r⟩:=wA hk;have no:¬ (k' = .local∨k' = .cell):=fun hh=>by
     rcases ok.own _ (PySem.mem_of_lookup e) hh with e' | e'
     ·obtain⟨p,hp,hpy⟩:=List.mem_map.mp e'
      have e3:=ok.ix p hp
      have:p.1=y:=hpy
      rw [this] at e3;exact hne (List.mem_map.mpr ⟨p,hp,cVz hN e3 e1⟩)
     ·exact e' (List.mem_of_getElem? e1)
    rcases r with rfl | ⟨rfl,rfl⟩
    ·rcases hk' with rfl | rfl | rfl
     ·exact absurd (.inl rfl) no
     ·exact absurd (.inr rfl) no
     ·exact⟨e,.inr hk0⟩
    ·exact⟨e,.inl hk0⟩
   have e3:Vis cenv.scope y:=e3;rcases e3 with e3 | e3 | e3
   ·exact key _ e3 (.inl rfl)
   ·exact key _ e3 (.inr (.inl rfl))
   ·exact key _ e3 (.inr (.inr rfl))
  obtain⟨m,hn,hl⟩:=I.loc;have hvis:Vis X.env.scope y:=(ok.free _ (PySem.mem_of_lookup hfr.1) rfl).elim (fun k => .inr (.inl k)) (fun k => .inr (.inr k));obtain⟨w,r,q⟩:=hl i y av e1 e2 hvis;refine⟨w,r,.inr ⟨hfr.2,?_⟩⟩;obtain⟨c,h1,h2⟩:=look hfr.1;rcases q with ⟨k,_⟩ | ⟨_,c',e',z⟩
  ·have k:X.env.scope.names.lookup y=some .local:=k
   rcases ok.free _ (PySem.mem_of_lookup hfr.1) rfl with k' | k' <;> rw [show X.env.scope.names.lookup y=_ from k'] at k <;> cases k
  ·rw [h2] at e';cases e'
   exact⟨c,h1,z.keeps kp⟩
 ·have e:cenv.cells.lookup y=some c:=e
  rcases mem e with ⟨h1,_⟩ | ⟨_,z⟩
  ·obtain⟨w,z⟩:=I.cell y c h1
   exact⟨w,z.keeps kp⟩
  ·exact⟨_,z⟩
 ·show H cenv.locals=none
  rw [hL];exact I.hok.fresh (Nat.le_refl _)
 ·have e:cenv.cells.lookup y=some c:=e
  rcases mem e with ⟨h1,_⟩ | ⟨h1,_⟩
  ·exact I.freeC y c h1
  ·exact I.hok.fresh (Nat.le_of_succ_le h1)
 ·exact absurd (show p∈([]:List (Addr×Obj))++[] from hp) (by simp)
theorem app_ok {E:Value→Shared→Prop} {D:Addr} {xs:List V} {y:V} {v:Value} {Q:Value→Shared→Prop} (I:Inv X pins σ H s) (hD:H D=some (.lst xs)) (hz:xs.length<sizeLine) (r:RelV y v)
  (h:∀s',Inv X pins σ (upd H D (.lst (xs++[y]))) s'→Q .none s'):wpAny (model X.prog X.w) X.A (call (.builtin "list.append") [.ref D,v]) Q E s:=by
 obtain⟨hz',its,n,ri,e⟩:=I.hok D _ hD;have hl:=ri.length;refine append_at (hsz:=by rw [List.size_toArray];omega) e fun h' sb ho'=>?_;refine h {s with heap:=h'} (I.write (t':=s.toks) (by rw [hD];trivial) (.inl rfl) (fun b u hb q=>(sb.2 b hb).trans q) ⟨_,ho'⟩ ⟨by rw [List.length_append];exact hz,its++[v],n+1,ri.append (.cons r .nil),?_⟩);rw [ho']
 simp
def PTs (X:Cx) (ifs:List Expr) (t:TT):Prop :=
 ∀(pins:List (Addr×Obj)) (s:Shared) (σ : St) (H:Hp) (Q:Bool→Hp→Prop),Inv X pins σ H s→t σ H Q→
  wpAny (model X.prog X.w) X.A (forIn ifs true fun c r=>if r=true then do let ok ← isTrue c X.env (eval c X.env);pure (ForInStep.yield ok) else pure (ForInStep.yield r)) (TP X pins σ Q) X.xe s
def tYes:TT:=fun _ H Q=>Q true H
theorem sC:PTs X [] tYes:=fun _ _ _ H _ I h=>wpAny_tests_nil ⟨H,I,h⟩
theorem BNz {c:Expr} {t:TT} (h:PT X c t):PTs X [c] t:=fun pins s σ H Q I hw=>wpAny_tests_one (h pins s σ H Q I hw)
end
theorem thnF {α : Type} {t:Sem α} {Q Q' : α→Shared→Prop} {M:Model} {A:Around} {E:Value→Shared→Prop} {s:Shared} (h:wpAny M A t Q (fun _ _=>False) s) (hQ:∀a s,Q a s→Q' a s):wpAny M A t Q' E s:=wpAny_mono h hQ fun _ _ z=>False.elim z
theorem n0z {prog:Program} {w:World} {A:Around} {R:Result→Shared→Prop} {s:Shared} {elt target iter:Expr} {ifs:List Expr} {scope:Scope} {pos:Pos} {it acc:Value} {env:Env} (I:Nat→Shared→Prop)
  (turn:∀n s,I n s→wpAny (model prog w) A (pyNext it) (fun r s₁ => match r with
   | none=>R (.ok .next) s₁
   | some v=>wpAny (model prog w) A (letOwnedTupleGo target it v) (fun _ s₁'=>wpAny (model prog w) A (assign target env v) (fun _ s₂ =>
     wpAny (model prog w) A (forIn ifs true fun c r=>if r=true then do let ok ← isTrue c env (eval c env);pure (ForInStep.yield ok) else pure (ForInStep.yield r)) (fun ok s₃ =>
      if ok=true then wpAny (model prog w) A (eval elt env) (fun x s₄ =>
       wpAny (model prog w) A (call (.builtin "list.append") [acc,x]) (fun _ s₅ => ∃m,m<n∧I m s₅) (notedBy (model prog w) A env fun e s'=>R (.error e) s') s₄) (notedBy (model prog w) A env fun e s'=>R (.error e) s') s₃
      else ∃m,m<n∧I m s₃) (notedBy (model prog w) A env fun e s'=>R (.error e) s') s₂) (notedBy (model prog w) A env fun e s'=>R (.error e) s') s₁') (notedBy (model prog w) A env fun e s'=>R (.error e) s') s₁) (notedBy (model prog w) A env fun e s'=>R (.error e) s') s)
  (n:Nat) (h:I n s) :
  codeAny (model prog w) A (.compLoop (.ListComp elt [⟨target,iter,ifs,0⟩] scope pos) 0 it acc env) R s:=by
 refine codeAny_loop rfl I (fun n s hI=>?_) n h;show wpAny _ A ((compTurn (.ListComp elt [⟨target,iter,ifs,0⟩] scope pos) 0 it acc env).onRaise (fun x=>do noteFrame x env;theTreesLotGoes x)) _ _ s;refine wpAny_noted ?_;rw [compTurn_list];refine wpAny_bind (wpAny_standAt (wpAny_bind (wpAny_mono (turn n s hI) (fun r s₁ h₁ => ?_) fun _ _ h'=>h')));cases r with
 | none=>exact wpAny_pure h₁
 | some v =>
  refine wpAny_bind (wpAny_mono h₁ (fun _ s₁' h₁'=>?_) fun _ _ h'=>h');refine wpAny_bind (wpAny_mono h₁' (fun _ s₂ h₂ => wpAny_bind (wpAny_mono h₂ (fun ok s₃ h₃ => ?_) fun _ _ h'=>h')) fun _ _ h'=>h');cases ok with
  | false=>exact wpAny_pure ⟨rfl,h₃⟩
  | true =>
   exact wpAny_bind (wpAny_bind (wpAny_mono h₃ (fun x s₄ h₄ => wpAny_bind (wpAny_mono h₄ (fun _ s₅ h₅ => wpAny_pure (wpAny_pure ⟨rfl,h₅⟩)) fun _ _ h'=>h')) fun _ _ h'=>h'))
section
variable {X:Cx}
def tLc (wi:TI) (g:TG) (tt:TT) (te:TE) (vs:List Nat):TE:=fun σ H Q=>wi σ H fun J H1=>∀D,H1 D=none→∃W:Nat→Nat→Hp→Prop,(∃m,W 0 m (upd H1 D (.lst [])))∧∀i m H,W i m H→
 (J.stop i H∧Q (.ref D) H)∨(J.go i H∧∃Nx:Hp→Prop,(∀H',Nx H'→∃m',m'<m∧W (i+1) m' H')∧∀x H',J.yld i H x H'→g x (wipe σ vs) H' fun σ2 H2=>wipe σ2 vs=wipe σ vs∧tt σ2 H2 fun b H3 =>
  if b=true then te σ2 H3 fun y H4=>∃acc,H4 D=some (.lst acc)∧acc.length<sizeLine∧Nx (upd H4 D (.lst (acc++[y]))) else Nx H3)
theorem CCz {pins:List (Addr×Obj)} {s:Shared} {σ : St} {H:Hp} {Q:VK} {elt tg iter:Expr} {ifs:List Expr} {scope:Scope} {own:List (Str×Nat)} {pos pos':Pos} {wi:TI} {g:TG} {tt:TT} {te:TE} {use:Option (Value→Sem Unit)} {Qf:Value→Shared→Prop}
  (hc:X.calm=true) (hN:X.N.Nodup) (I:Inv X pins σ H s) (hi:PI X tg iter wi) (ok:ABz X.N X.env.scope scope own)
  (hg:∀(s:Shared) (H:Hp) (C:Addr) (cl:List (Str×Addr)) (fp:List Addr),PG (X.blk s H scope (compEnvC scope cl C X.env) fp) tg g) (ht:∀(s:Shared) (H:Hp) (C:Addr) (cl:List (Str×Addr)) (fp:List Addr),PTs (X.blk s H scope (compEnvC scope cl C X.env) fp) ifs tt)
  (he:∀(s:Shared) (H:Hp) (C:Addr) (cl:List (Str×Addr)) (fp:List Addr),PE (X.blk s H scope (compEnvC scope cl C X.env) fp) elt te) (hs:∀x,foldedSetIterable iter X.env x=pure x)
  (h:tLc wi g tt te (own.map (·.2)) σ H Q)
  (hRR:∀D C s' m H',Inv X pins σ H' s'→Q (.ref D) H'→s'.heap.Ns C m→FpOk X pins H' C→compPost (model X.prog X.w) X.A X.xe use Qf (.ref D) C (.ok .next) s') :
  wpAny (model X.prog X.w) X.A (comprehension (.ListComp elt [⟨tg,iter,ifs,0⟩] scope pos) scope X.env pos' (newList []) false (eval iter X.env) use) Qf X.xe s:=by
 have hfree:∀y∈scope.names,y.2 = .free→∃c,X.env.cells.lookup y.1=some c:=fun y hy e=>by
  rcases ok.free y hy e with k | k
  ·exact I.ok.has _ (.inl k)
  ·exact I.ok.has _ (.inr k)
 refine wpAny_comprehension_free (use:=use) rfl hs (uTz hfree) ok.kind (fun y hy e=>by rw [ok.uniq y hy,e])
  (thn (hi pins s σ H _ I h) fun xv s1 hx=>thn hx fun itv s2 h2=>?_)
 obtain⟨it,fp,tn,J,H2,e,I2,T,st2,f2,q⟩:=h2;subst e;refine wpAny_newObj_type (pMz ?_) (by show 0≤sizeLine;decide);generalize hD:s2.heap.objs.size=D;have hDn:H2 D=none:=I2.hok.fresh (Nat.le_of_eq hD);obtain⟨W,⟨m0,w0⟩,turn⟩:=q D hDn;generalize hs3:({s2 with heap:=s2.heap.push {cls := .type "list",data := .seq ([]:List Value).toArray}}:Shared)=s3;have I3:Inv X pins σ (upd H2 D (.lst [])) s3:=by
  rw [← hs3];refine I2.laid (t':=s2.toks) (fun b o e=>Heap.get?_push_of_some _ e) (Nat.le_of_eq hD) ⟨Nat.zero_le _,[],0,.nil,?_⟩;rw [← hD];exact Heap.get?_push_size _ rfl
 have h3:s3.heap=s2.heap.push {cls := .type "list",data := .seq ([]:List Value).toArray}:=by rw [← hs3]
 have sz:∀b∈fp,b<s2.heap.objs.size:=fun b hb=>by
  obtain⟨o,e,_⟩:=T.obj _ _ st2 b hb;exact Heap.lt_size e
 have f3:∀b∈fp,FpOk X pins (upd H2 D (.lst [])) b∧b<s3.heap.objs.size:=fun b hb=>by
  have hlt:=sz b hb;refine⟨⟨?_,(f2 b hb).2⟩,by rw [h3,Heap.size_push];exact Nat.lt_succ_of_lt hlt⟩;rw [aO (by rw [← hD];exact Nat.ne_of_lt hlt)];exact (f2 b hb).1
 have st3:tn 0 s3.heap:=T.keep _ _ _ st2 fun b _ o e=>by rw [h3];exact Heap.get?_push_of_some _ e
 have I4:=qHz I3 ok hN f3;have pg:=hg s3 (upd H2 D (.lst [])) s3.heap.objs.size (cellsFrom (s3.heap.objs.size+1) scope.names (cloFrom X.env.cells scope.names [])) fp;have pt:=ht s3 (upd H2 D (.lst [])) s3.heap.objs.size (cellsFrom (s3.heap.objs.size+1) scope.names (cloFrom X.env.cells scope.names [])) fp;have pe:=he s3 (upd H2 D (.lst [])) s3.heap.objs.size (cellsFrom (s3.heap.objs.size+1) scope.names (cloFrom X.env.cells scope.names [])) fp;show codeAny _ _ (.compStart (.ListComp elt [⟨tg,iter,ifs,0⟩] scope pos) 0 (.ref it) (.ref D) (compEnvC scope (cellsFrom (s3.heap.objs.size+1) scope.names (cloFrom X.env.cells scope.names [])) s3.heap.objs.size X.env)) (compPost (model X.prog X.w) X.A X.xe use Qf (.ref D) s3.heap.objs.size) {s3 with heap:=pushCells (s3.heap.push {cls := .type "dict",data := .dict #[]}) scope.names};have nfp:∀b∈fp,(upd H2 D (.lst [])) b=none:=fun b hb=>(f3 b hb).1.1;generalize hce:compEnvC scope (cellsFrom (s3.heap.objs.size+1) scope.names (cloFrom X.env.cells scope.names [])) s3.heap.objs.size X.env=ce at I4 pg pt pe ⊢;have cL:ce.locals=s3.heap.objs.size:=by subst hce;rfl
 generalize hH3:upd H2 D (.lst [])=H3 at I3 I4 pg pt pe w0 nfp f3;generalize hs4:({s3 with heap:=pushCells (s3.heap.push {cls := .type "dict",data := .dict #[]}) scope.names}:Shared)=s4 at I4 ⊢;have st4:tn 0 s4.heap:=T.keep _ _ _ st3 fun b _ o e=>by rw [← hs4];exact pushCells_keeps _ _ _ _ (Heap.get?_push_of_some _ e)
 have stat:∀{σ':St} {H':Hp} {s':Shared},Inv (X.blk s3 H3 scope ce fp) [] σ' H' s'→(∀b∈fp,H' b=none)→∀b∈fp,FpOk (X.blk s3 H3 scope ce fp) [] H' b:=fun {σ' H' s'} I' hn b hb =>
  ⟨hn b hb,(I'.ok.exf b hb).1,I'.ok.exfs b hb,.inl hb,fun x c e=>(I'.ok.exf b hb).2 x c e,fun p hp=>absurd (show p∈([]:List (Addr×Obj))++[] from hp) (by simp)⟩
 have loop:codeAny (model X.prog X.w) X.A (.compLoop (.ListComp elt [⟨tg,iter,ifs,0⟩] scope pos) 0 (.ref it) (.ref D) ce) (compPost (model X.prog X.w) X.A X.xe use Qf (.ref D) s3.heap.objs.size) s4:=by
  refine n0z (fun n s'=>∃i H',Inv (X.blk s3 H3 scope ce fp) [] (wipe σ (own.map (·.2))) H' s'∧tn i s'.heap∧(∀b∈fp,H' b=none)∧W i n H') ?_ m0 ⟨0,H3,I4,st4,nfp,w0⟩;rintro n s5 ⟨i,H5,I5,st5,n5,w5⟩;rcases turn i n H5 w5 with ⟨stop,qq⟩ | ⟨go,Nx,hNx,step⟩
  ·have td:=T.done (X.blk s3 H3 scope ce fp) rfl rfl rfl hc i [] s5 _ H5 (fun _ _=>False) I5 (stat I5 n5) st5 stop
   refine thnF td fun r s6 ⟨hr,I6⟩=>?_;subst hr;have I7:Inv X pins σ H5 s6:=I3.call' (ch:=fp) I6.os I6.base I6.hok I6.bare fun b hb=>⟨(f3 b hb).1.2.2.2.1,(f3 b hb).1.2.1,(f3 b hb).1.2.2.2.2.1,(f3 b hb).1.2.2.2.2.2⟩;have nC:H5 s3.heap.objs.size=none:=by
    have z:H5 ce.locals=none:=I6.free;rw [cL] at z;exact z
   obtain⟨m,hn,_⟩:=I6.loc;have hn:s6.heap.Ns ce.locals m:=hn;rw [cL] at hn;exact hRR D s3.heap.objs.size s6 m H5 I7 qq hn (I3.fpOk (Nat.le_refl _) nC)
  ·have ti:=T.item (X.blk s3 H3 scope ce fp) rfl rfl rfl hc i [] s5 _ H5 (fun _ _=>False) I5 (stat I5 n5) st5 go
   refine thnF ti fun r s6 ⟨u,hr,h6⟩=>?_;subst hr;refine thnF h6 fun _ s7 ⟨x,H7,I7,r7,y7,st7,n7⟩=>?_;have I7':=I7.pinned (stat I7 n7) (T.obj _ _ st7);refine thnF (pg _ s7 _ H7 x u _ I7' r7 (step x H7 y7)) fun _ s8 ⟨σ8,H8,I8,hw8,q8⟩=>?_;refine thnF (pt _ s8 σ8 H8 _ I8 q8) fun b s9 ⟨H9,I9,q9⟩=>?_;have fin:∀{s':Shared} {H':Hp},Inv (X.blk s3 H3 scope ce fp) ([]++pinsAt fp s7.heap) σ8 H' s'→Nx H'→∃m,m<n∧∃i H',Inv (X.blk s3 H3 scope ce fp) [] (wipe σ (own.map (·.2))) H' s'∧tn i s'.heap∧(∀b∈fp,H' b=none)∧W i m H':=fun {s' H'} I' nx=>by
    obtain⟨m',hm,w'⟩:=hNx H' nx;have pin':∀b∈fp,∀o,s7.heap.get? b=some o→s'.heap.get? b=some o∧H' b=none:=fun b hb o e =>
     let z:=I'.pin (b,o) (List.mem_append_right _ (List.mem_append_right _ (zU hb e)))
     ⟨z.1,z.2.1⟩
    have hl:(wipe σ (own.map (·.2))).length = σ8.length:=by rw [← hw8,vH]
    refine⟨m',hm,i+1,H',(I'.unpinned (pins:=[])).weak hl (fun j v e=>?_),T.keep _ _ _ st7 fun b hb o e=>(pin' b hb o e).1,fun b hb=>?_,w'⟩
    ·rw [← hw8] at e
     exact (dCz e).1
    ·obtain⟨o,e,_⟩:=T.obj _ _ st7 b hb
     exact (pin' b hb o e).2
   cases b with
   | false =>
    simp only [Bool.false_eq_true,if_false] at q9 ⊢;exact fin I9 q9
   | true =>
    simp only [if_true] at q9 ⊢;refine thnF (pe _ s9 σ8 H9 _ I9 q9) fun z s10 ⟨yv,H10,I10,r10,acc,hD10,hz10,nx⟩=>?_;exact app_ok (X:=X.blk s3 H3 scope ce fp) I10 hD10 hz10 r10 fun s11 I11=>fin I11 nx
 exact codeAny_compStart_list loop (T.self X.A 0 _ _ _ st4 loop)
theorem jVz {elt tg iter:Expr} {ifs:List Expr} {scope:Scope} {own:List (Str×Nat)} {pos:Pos} {wi:TI} {g:TG} {tt:TT} {te:TE} (hc:X.calm=true) (hN:X.N.Nodup) (hi:PI X tg iter wi) (ok:ABz X.N X.env.scope scope own)
  (hg:∀(s:Shared) (H:Hp) (C:Addr) (cl:List (Str×Addr)) (fp:List Addr),PG (X.blk s H scope (compEnvC scope cl C X.env) fp) tg g) (ht:∀(s:Shared) (H:Hp) (C:Addr) (cl:List (Str×Addr)) (fp:List Addr),PTs (X.blk s H scope (compEnvC scope cl C X.env) fp) ifs tt)
  (he:∀(s:Shared) (H:Hp) (C:Addr) (cl:List (Str×Addr)) (fp:List Addr),PE (X.blk s H scope (compEnvC scope cl C X.env) fp) elt te) (hs:∀x,foldedSetIterable iter X.env x=pure x:=by intro _;rfl) :
  PE X (.ListComp elt [⟨tg,iter,ifs,0⟩] scope pos) (tLc wi g tt te (own.map (·.2))):=by
 intro pins s σ H Q I h;rw [eval_ListComp];refine CCz hc hN I hi ok hg ht he hs h fun D C s' m H' I' q hn f=>⟨m,hn,fun h'' sb=>?_⟩;obtain⟨f0,f1,f2,f3,f4,f5⟩:=f;exact⟨.ref D,H',I'.turned (t':=s'.toks) (fun b o hb e=>(sb.2 b hb).trans e) f0 f1 f3 f4 f5,rfl,q⟩
end
def blkC (N:List Str) (sc scope:Scope) (own:List (Str×Nat)):Bool :=
 (match scope.kind with | .function=>true | _=>false)&&(scope.names.all fun y=>decide (scope.names.lookup y.1=some y.2))&&(own.all fun p=>decide (N[p.2]?=some p.1)) &&
  (scope.names.all fun y=>match y.2 with
   | .free=>(match sc.names.lookup y.1 with | some .cell=>true | some .free=>true | _=>false)
   | .local=>decide (y.1∈own.map (·.1))||decide (y.1∉N)
   | .cell=>decide (y.1∈own.map (·.1))||decide (y.1∉N)
   | _=>true)
theorem kW {N:List Str} {sc scope:Scope} {own:List (Str×Nat)} (h:blkC N sc scope own=true):ABz N sc scope own:=by
 unfold blkC at h;simp only [Bool.and_eq_true,List.all_eq_true,decide_eq_true_eq] at h;obtain⟨⟨⟨h1,h2⟩,h3⟩,h4⟩:=h;refine⟨?_,h2,h3,fun y hy e=>?_,fun y hy e=>?_⟩
 ·split at h1
  ·assumption
  ·cases h1
 ·have q:=h4 y hy
  simp only [e] at q;split at q <;> first | exact .inl (by assumption) | exact .inr (by assumption) | cases q
 ·have q:=h4 y hy
  rcases e with e | e <;> (simp only [e,Bool.or_eq_true,decide_eq_true_eq] at q;exact q)
end L2
namespace L2
open PySem PySem.Spec PyProof.Rows
section
variable {prog:Program} {w:World} {A:Around} {R:Result→Shared→Prop} {s:Shared} {elt t0 i0 t1 i1:Expr} {ifs0 ifs1:List Expr} {scope:Scope} {pos:Pos} {it acc:Value} {env:Env}
end
section
variable {X:Cx}
end
end L2
namespace L2
open PySem PySem.Spec PyProof.Rows
section
variable {κ : Type} [DecidableEq κ]
def valV (kvs:List (κ×V)) (k : κ):Option V:=(kvs.find? fun kv=>decide (kv.1=k)).map (·.2)
def putK (kvs:List (κ×V)) (k : κ) (v:V):List (κ×V) :=
 if (kvs.any fun kv=>decide (kv.1=k))=true then kvs.map (fun kv=>if kv.1=k then (kv.1,v) else kv) else kvs++[(k,v)]
theorem tI {p : κ×V} {r:List (κ×V)} {k : κ} (e:p.1=k):valV (p::r) k=some p.2:=by simp [valV,List.find?_cons,e]
theorem tK {p : κ×V} {r:List (κ×V)} {k : κ} (e:¬ p.1=k):valV (p::r) k=valV r k:=by simp [valV,List.find?_cons,e]
theorem cTz (k : κ):∀kvs:List (κ×V),(kvs.any fun kv=>decide (kv.1=k))=(valV kvs k).isSome
 | []=>rfl
 | p::r=>by
  rw [List.any_cons]
  by_cases e:p.1=k
  ·simp only [tI e,decide_eq_true e,Bool.true_or,Option.isSome_some]
  ·rw [tK e,decide_eq_false e,Bool.false_or];exact cTz k r
theorem wC (kvs:List (κ×V)) (k : κ) (v:V):(putK kvs k v).length≤kvs.length+1:=by
 unfold putK;split
 ·rw [List.length_map];omega
 ·rw [List.length_append,List.length_cons,List.length_nil];omega
theorem jQz {kvs:List (κ×V)} {k : κ} (v:V) (h:valV kvs k=none):putK kvs k v=kvs++[(k,v)]:=by
 unfold putK;rw [cTz,h];exact if_neg (by decide)
theorem RelO.isSome_eq {o:Option V} {u:Option Value} (r:RelO o u):o.isSome=u.isSome:=by
 cases o with
 | none=>cases u with
  | none=>rfl
  | some _=>exact (show False from r).elim
 | some _=>cases u with
  | none=>exact (show False from r).elim
  | some _=>rfl
theorem RelO.getD {o:Option V} {u:Option Value} {d:V} {d':Value} (r:RelO o u) (rd:RelV d d'):RelV (o.getD d) (u.getD d'):=by
 cases o with
 | none=>cases u with
  | none=>exact rd
  | some _=>exact (show False from r).elim
 | some _=>cases u with
  | none=>exact (show False from r).elim
  | some _=>exact r
theorem KV.val {kvs:List (κ×V)} {vs:List (κ×Value)} (r:KV kvs vs) (k : κ):RelO (valV kvs k) (valueAt vs k):=by
 unfold KV at r
 induction r with
 | nil=>exact True.intro
 | @cons p q ps qs h t ih =>
  obtain⟨h1,h2⟩:=h
  by_cases e:p.1=k
  ·have e':q.1=k:=h1.symm.trans e
   have b:valueAt (q::qs) k=some q.2:=by simp [valueAt,List.find?_cons,e']
   rw [tI e,b];exact h2
  ·have e':¬ q.1=k:=fun z=>e (h1.trans z)
   have b:valueAt (q::qs) k=valueAt qs k:=by simp [valueAt,List.find?_cons,e']
   rw [tK e,b];exact ih
theorem KV.any {kvs:List (κ×V)} {vs:List (κ×Value)} (r:KV kvs vs) (k : κ):(kvs.any fun kv=>decide (kv.1=k))=vs.any fun kv=>decide (kv.1=k):=by
 unfold KV at r
 induction r with
 | nil=>rfl
 | cons h t ih=>rw [List.any_cons,List.any_cons,ih,h.1]
theorem KV.repl {kvs:List (κ×V)} {vs:List (κ×Value)} (r:KV kvs vs) (k : κ) {y:V} {u:Value} (ry:RelV y u) :
  KV (kvs.map fun kv=>if kv.1=k then (kv.1,y) else kv) (vs.map fun kv=>if kv.1=k then (kv.1,u) else kv):=by
 unfold KV at r ⊢
 induction r with
 | nil=>exact .nil
 | @cons p q ps qs h t ih =>
  rw [List.map_cons,List.map_cons];refine .cons ?_ ih;obtain⟨h1,h2⟩:=h
  by_cases e:p.1=k
  ·rw [if_pos e,if_pos (h1.symm.trans e)];exact⟨h1,ry⟩
  ·rw [if_neg e,if_neg (fun z=>e (h1.trans z))];exact⟨h1,h2⟩
theorem KV.put {kvs:List (κ×V)} {vs:List (κ×Value)} (r:KV kvs vs) (k : κ) {y:V} {u:Value} (ry:RelV y u):KV (putK kvs k y) (stored vs k u):=by
 unfold putK stored;rw [r.any k]
 by_cases e:(vs.any fun kv=>decide (kv.1=k))=true
 ·rw [if_pos e,if_pos e];exact r.repl k ry
 ·rw [if_neg e,if_neg e];exact Paired.snoc r ⟨rfl,ry⟩
theorem KV.length {kvs:List (κ×V)} {vs:List (κ×Value)} (r:KV kvs vs):kvs.length=vs.length:=Paired.length r
end
theorem uIz {P:Program} {w:World} {k:Key} {u:Value} (r:RelV (kV k) u):(mixKind P w).is k u=true:=by
 cases k with
 | inl i=>obtain⟨t,e⟩:=(show ∃t,u=Value.int i t from r);subst e;exact pRz P w i t
 | inr x=>obtain⟨t,e⟩:=(show ∃t,u=Value.str x t from r);subst e;exact pQz P w x t
theorem nMz {P:Program} {w:World}:∀{ks:List Key} {us:List Value},Vals (ks.map kV) us→ItemsAre (mixKind P w) ks us
 | [],_,r=>by rw [List.map_nil] at r;cases r;exact .nil
 | k::ks,_,r=>by
  rw [List.map_cons] at r;cases r with
  | cons h t=>exact .cons (uIz h) (nMz t)
abbrev KT (H:Hp):List (List Key×V)→List (List Key×Addr×Value)→Prop:=Paired fun p q=>p.1=q.1∧H q.2.1=some (.tup (p.1.map kV))∧RelV p.2 q.2.2
theorem KT.val {H:Hp} {kvs:List (List Key×V)} {xs:List (List Key×Addr×Value)} (r:KT H kvs xs) (k:List Key):RelO (valV kvs k) ((atKey xs k).map (·.2)):=by
 induction r with
 | nil=>exact True.intro
 | @cons p q ps qs h t ih =>
  obtain⟨h1,_,h2⟩:=h
  by_cases e:p.1=k
  ·have e':q.1=k:=h1.symm.trans e
   have b:atKey (q::qs) k=some q.2:=by simp [atKey,List.find?_cons,e']
   rw [tI e,b];exact h2
  ·have e':¬ q.1=k:=fun z=>e (h1.trans z)
   have b:atKey (q::qs) k=atKey qs k:=by simp [atKey,List.find?_cons,e']
   rw [tK e,b];exact ih
theorem KT.repl {H:Hp} {kvs:List (List Key×V)} {xs:List (List Key×Addr×Value)} (r:KT H kvs xs) (k:List Key) {y:V} {u:Value} (ry:RelV y u) :
  KT H (kvs.map fun kv=>if kv.1=k then (kv.1,y) else kv) (xs.map (putAt k u)):=by
 induction r with
 | nil=>exact .nil
 | @cons p q ps qs h t ih =>
  rw [List.map_cons,List.map_cons];refine .cons ?_ ih;obtain⟨h1,h2,h3⟩:=h;unfold putAt
  by_cases e:p.1=k
  ·rw [if_pos e,if_pos (h1.symm.trans e)];exact⟨h1,h2,ry⟩
  ·rw [if_neg e,if_neg (fun z=>e (h1.trans z))];exact⟨h1,h2,h3⟩
theorem KT.put {H:Hp} {kvs:List (List Key×V)} {xs:List (List Key×Addr×Value)} (r:KT H kvs xs) (k:List Key) {b:Addr} {y:V} {u:Value} (hb:H b=some (.tup (k.map kV))) (ry:RelV y u) :
  KT H (putK kvs k y) (storedH xs k b u):=by
 have e:(kvs.any fun kv=>decide (kv.1=k))=(atKey xs k).isSome:=by
  rw [cTz,(r.val k).isSome_eq,Option.isSome_map]
 unfold putK storedH;rw [e]
 by_cases q:(atKey xs k).isSome=true
 ·rw [if_pos q,if_pos q];exact r.repl k ry
 ·rw [if_neg q,if_neg q];exact Paired.snoc r ⟨rfl,hb,ry⟩
theorem KT.keeps {H H':Hp} {kvs:List (List Key×V)} {xs:List (List Key×Addr×Value)} (r:KT H kvs xs) (ht:∀b ys,H b=some (.tup ys)→H' b=some (.tup ys)):KT H' kvs xs :=
 Paired.mapP r fun _ _ z=>⟨z.1,ht _ _ z.2.1,z.2.2⟩
section
variable {P:Program} {w:World} {H:Hp} {h:Heap} {a:Addr}
theorem rd_of {u:HO} (ok:HOk P w H h) (e:Rd H a u):eY P w H h a u:=e.ok ok
theorem qBz {kvs:List (Key×V)} (ok:HOk P w H h) (e:Rd H a (.dK kvs)):kvs.length≤sizeLine∧(a == sysModules)=false∧∃vs,KV kvs vs∧h.DictOf (mixKind P w) a vs :=
 show eY P w H h a (.dK kvs) from rd_of ok e
theorem dk_of {kvs:List (Key×V)} (ok:HOk P w H h) (e:H a=some (.dK kvs)):kvs.length≤sizeLine∧(a == sysModules)=false∧∃vs,KV kvs vs∧h.DictOf (mixKind P w) a vs:=qBz ok (.inl e)
theorem fCz {ks:List Key} (ok:HOk P w H h) (e:H a=some (.tup (ks.map kV))):(tupleKind (mixKind P w)).is h ks a:=by
 obtain⟨_,its,r,o,h1,h2,n,h3⟩:=(show eY P w H h a (.tup (ks.map kV)) from ok a _ e);exact⟨o,its.toArray,n,h1,h2,h3,by simpa using nMz r⟩
theorem qAz {kvs:List (List Key×V)} (ok:HOk P w H h) (e:Rd H a (.dT kvs)):kvs.length≤sizeLine∧(a == sysModules)=false∧
  ∃xs,KT H kvs xs∧h.DictOfH (tupleKind (mixKind P w)) a xs:=by
 obtain⟨z,y,xs,r,o,es,ep,h1,h2,h3,h4,h5⟩:=(show eY P w H h a (.dT kvs) from rd_of ok e);refine⟨z,y,xs,r,o,es,ep,h1,h2,h3,h4,fun x hx=>?_,h5⟩;have all:∀{l:List (List Key×V)} {m:List (List Key×Addr×Value)},KT H l m→∀x∈m,(tupleKind (mixKind P w)).is h x.1 x.2.1:=by
  intro l m q
  induction q with
  | nil=>intro x hx;exact nomatch hx
  | @cons p q ps qs hq t ih =>
   intro x hx;rcases List.mem_cons.mp hx with e | hx
   ·subst e
    exact fCz ok (by rw [← hq.1];exact hq.2.1)
   ·exact ih x hx
 exact all r x hx
theorem dt_of {kvs:List (List Key×V)} (ok:HOk P w H h) (e:H a=some (.dT kvs)):kvs.length≤sizeLine∧(a == sysModules)=false∧
  ∃xs,KT H kvs xs∧h.DictOfH (tupleKind (mixKind P w)) a xs:=qAz ok (.inl e)
end
def DGet (H:Hp) (a:Addr) (y:V) (r:Option V):Prop :=
 (∃kvs k,Rd H a (.dK kvs)∧y=kV k∧r=valV kvs k)∨∃kvs k b,Rd H a (.dT kvs)∧y = .ref b∧H b=some (.tup (k.map kV))∧r=valV kvs k
def DPut (H:Hp) (a:Addr) (y v:V) (H':Hp):Prop :=
 (∃kvs k,H a=some (.dK kvs)∧y=kV k∧kvs.length<sizeLine∧H'=upd H a (.dK (putK kvs k v)))∨
 ∃kvs k b,H a=some (.dT kvs)∧y = .ref b∧H b=some (.tup (k.map kV))∧kvs.length<sizeLine∧H'=upd H a (.dT (putK kvs k v))
theorem DGet.t {H:Hp} {a b:Addr} {kvs:List (List Key×V)} {k:List Key} (e:H a=some (.dT kvs)) (eb:H b=some (.tup (k.map kV))):DGet H a (.ref b) (valV kvs k) := .inr ⟨kvs,k,b,.inl e,rfl,eb,rfl⟩
theorem DPut.t {H:Hp} {a b:Addr} {kvs:List (List Key×V)} {k:List Key} {v:V} (e:H a=some (.dT kvs)) (eb:H b=some (.tup (k.map kV))) (hl:kvs.length<sizeLine) :
  DPut H a (.ref b) v (upd H a (.dT (putK kvs k v))) := .inr ⟨kvs,k,b,e,rfl,eb,hl,rfl⟩
section
variable {X:Cx} {pins:List (Addr×Obj)} {σ : St} {H:Hp} {s:Shared} {a:Addr} {y v:V} {u r:Value} {o:Option V} {A:Around} {E:Value→Shared→Prop}
theorem Inv.big (I:Inv X pins σ H s):sysModules<s.heap.objs.size:=by
 have h:mainGlobals<s.heap.objs.size:=(I.mod.glob.keeps I.bk).lt;exact Nat.lt_trans (by decide) h
theorem yIz {Q:Value→Shared→Prop} (hu:A.units+1<cLine) (I:Inv X pins σ H s) (g:DGet H a y (some v)) (ry:RelV y u) (h:∀w' s',Inv X pins σ H s'→RelV v w'→Q w' s') :
  wpAny (model X.prog X.w) A (getItem (.ref a) u) Q E s:=by
 rcases g with ⟨kvs,k,e,ey,l⟩ | ⟨kvs,k,b,e,ey,eb,l⟩
 ·subst ey
  obtain⟨z,hd,vs,rel,dd⟩:=qBz I.hok e;obtain⟨w',hw,rw'⟩:=RelO.some_of (v:=v) (o:=valueAt vs k) (by rw [l];exact rel.val k);exact wpAny_getItem_of (uIz ry) dd.mapOf hw (h w' _ (I.tok _) rw')
 ·subst ey
  cases (show u=Value.ref b from ry);obtain⟨z,hd,xs,rel,dd⟩:=qAz I.hok e;obtain⟨w',hw,rw'⟩:=RelO.some_of (v:=v) (o:=(atKey xs k).map (·.2)) (by rw [l];exact rel.val k);obtain⟨p,hp,hp2⟩:=Option.map_eq_some_iff.mp hw;refine wpAny_getItem_heap (tupleKind_room_in1 hu) (fCz I.hok eb) dd hp ?_;rw [hp2];exact h w' _ (I.tok _) rw'
theorem d_in {Q:Value→Shared→Prop} (hu:A.units+1<cLine) (I:Inv X pins σ H s) (g:DGet H a y o) (ry:RelV y u) (h:∀s',Inv X pins σ H s'→Q (.bool o.isSome) s') :
  wpAny (model X.prog X.w) A (compareOp .In u (.ref a)) Q E s:=by
 rcases g with ⟨kvs,k,e,ey,l⟩ | ⟨kvs,k,b,e,ey,eb,l⟩
 ·subst ey
  obtain⟨z,hd,vs,rel,dd⟩:=qBz I.hok e;refine wpAny_in_of (uIz ry) hd dd.mapOf ?_;rw [← (rel.val k).isSome_eq,← l];exact h _ (I.tok _)
 ·subst ey
  cases (show u=Value.ref b from ry);obtain⟨z,hd,xs,rel,dd⟩:=qAz I.hok e;refine wpAny_in_heap (tupleKind_room_in1 hu) (fCz I.hok eb) hd dd ?_;have q:=(rel.val k).isSome_eq;rw [Option.isSome_map] at q;rw [← q,← l];exact h _ (I.tok _)
theorem CWz {Q:Value→Shared→Prop} (hu:A.units+1<cLine) (I:Inv X pins σ H s) (g:DGet H a y o) (ry:RelV y u) (h:∀s',Inv X pins σ H s'→Q (.bool (!o.isSome)) s') :
  wpAny (model X.prog X.w) A (compareOp .NotIn u (.ref a)) Q E s:=by
 rcases g with ⟨kvs,k,e,ey,l⟩ | ⟨kvs,k,b,e,ey,eb,l⟩
 ·subst ey
  obtain⟨z,hd,vs,rel,dd⟩:=qBz I.hok e;refine wpAny_notIn_of (uIz ry) hd dd.mapOf ?_;rw [← (rel.val k).isSome_eq,← l];exact h _ (I.tok _)
 ·subst ey
  cases (show u=Value.ref b from ry);obtain⟨z,hd,xs,rel,dd⟩:=qAz I.hok e;refine wpAny_notIn_heap (tupleKind_room_in1 hu) (fCz I.hok eb) hd dd ?_;have q:=(rel.val k).isSome_eq;rw [Option.isSome_map] at q;rw [← q,← l];exact h _ (I.tok _)
theorem yGz {h':Heap} {t':Nat} {ob:HO} (I:Inv X pins σ H s) (mu:Mut (H a)) (hs:Heap.SameBut a s.heap h') (he:∃q,h'.get? a=some q) (new:eY X.prog X.w (upd H a ob) h' a ob) :
  Inv X pins σ (upd H a ob) {s with heap:=h',toks:=t'} :=
 I.write (x:=a) (e:=a) mu (.inl rfl) (fun b q hb z=>(hs.2 b hb).trans z) he new
theorem dk_new {P:Program} {w:World} {H':Hp} {h':Heap} {kvs:List (Key×V)} {vs:List (Key×Value)} (z:kvs.length≤sizeLine) (hd:(a == sysModules)=false) (rel:KV kvs vs) (dd:h'.DictOf (mixKind P w) a vs) :
  eY P w H' h' a (.dK kvs):=⟨z,hd,vs,rel,dd⟩
theorem yHz {H':Hp} {Q:Unit→Shared→Prop} (hu:A.units+1<cLine) (I:Inv X pins σ H s) (g:DPut H a y v H') (ry:RelV y u) (rv:RelV v r) (h:∀s',Inv X pins σ H' s'→Q () s') :
  wpAny (model X.prog X.w) A (setItem (.ref a) u r) Q E s:=by
 rcases g with ⟨kvs,k,e,ey,l,eH⟩ | ⟨kvs,k,b,e,ey,eb,l,eH⟩
 ·subst ey eH
  obtain⟨z,hd,vs,rel,dd⟩:=dk_of I.hok e;have hz:vs.length≤sizeLine:=by rw [← rel.length];exact z
  have hl:(putK kvs k v).length≤sizeLine:=by have:=wC kvs k v;omega
  refine wpAny_setItem_pairs (hsz:=hz) (uIz ry) dd fun h' dd' hs=>h _ ?_;have he:∃q,h'.get? a=some q:=let ⟨q,_,_,hq,_⟩:=dd';⟨q,hq⟩;exact yGz I (by rw [e];exact True.intro) hs he (dk_new hl hd (rel.put k rv) dd')
 ·subst ey eH
  cases (show u=Value.ref b from ry);obtain⟨z,hd,xs,rel,dd⟩:=dt_of I.hok e;have hz:xs.length≤sizeLine:=by rw [← Paired.length rel];exact z
  have hl:(putK kvs k v).length≤sizeLine:=by have:=wC kvs k v;omega
  refine wpAny_setItem_heap (hsz:=hz) (tupleKind_room_in1 hu) (fCz I.hok eb) dd fun h' dd' hs=>h _ ?_;obtain⟨q,es,ep,hq,h2,h3,h4,_,h5⟩:=dd';refine yGz I (by rw [e];exact True.intro) hs ⟨q,hq⟩ ⟨hl,hd,_,(rel.put k eb rv).keeps fun c ys ec=>?_,q,es,ep,hq,h2,h3,h4,h5⟩;rw [aO (nBz ec e (fun z=>nomatch z))];exact ec
end
section
variable {X:Cx} {pins:List (Addr×Obj)} {σ : St} {H:Hp} {s:Shared} {a:Addr} {kvs:List (Key×V)} {k:Key} {u:Value} {A:Around} {E:Value→Shared→Prop}
end
def NoSl (i:Expr):Prop := ∀ov iv,subscripted i false ov iv=operate [ov,iv] (getItem ov iv)
theorem BDz {prog:Program} {w:World} {A:Around} {E:Value→Shared→Prop} {s:Shared} {env:Env} {value slice:Expr} {pos:Pos} {T id:String} {Q:Value→Shared→Prop}
  (hl:typeLookup (.type T) "__getitem__" = pure (some (.builtin id))) (hs:NoSl slice)
  (h:wpAny (model prog w) A (eval value env) (fun o s₁ => wpAny (model prog w) A (eval slice env) (fun i s₂ => s₂.TypeIs o T∧wpAny (model prog w) A (getItem o i) Q E s₂) E s₁) E s) :
  wpAny (model prog w) A (eval (.Subscript value slice pos) env) Q E s:=by
 refine Subscript_ (wpAny_mono h (fun o s₁ h₁ => wpAny_mono h₁ (fun i s₂ h₂ => ?_) fun _ _ x=>x) fun _ _ x=>x);obtain⟨hT,h₂⟩:=h₂;unfold subscriptTail;refine wpAny_bind ?_;rw [getitemInPython_of_ne hT.not_modules];refine wpAny_bind (wpAny_specialOf hT hl ?_);have fin:wpAny (model prog w) A (subscripted slice false o i) (fun r s₃ => wpAny (model prog w) A (letTemporaryGo value o r >>= fun _=>pure r) Q E s₃) E s₂ := by
  rw [hs o i];exact wpAny_operating (wpAny_mono h₂ (fun r s₃ h₃ => wpAny_bind (wpAny_letTemporaryGo (wpAny_pure h₃))) fun _ _ x=>x)
 first
  | exact wpAny_pure (wpAny_bind fin)
  | exact wpAny_bind (wpAny_pure (wpAny_bind fin))
  | exact wpAny_bind fin
theorem qDz {X:Cx} {pins:List (Addr×Obj)} {σ : St} {H:Hp} {s:Shared} {a:Addr} {y:V} {o:Option V} (I:Inv X pins σ H s) (g:DGet H a y o):s.TypeIs (.ref a) "dict" := by
 rcases g with ⟨kvs,k,e,_,_⟩ | ⟨kvs,k,b,e,_,_,_⟩
 ·obtain⟨_,_,vs,_,dd⟩:=qBz I.hok e
  exact dd.typeIs
 ·obtain⟨_,_,xs,_,dd⟩:=qAz I.hok e
  exact dd.typeIs
def tDGet (td ty:TE):TE:=fun σ H Q=>td σ H fun x H1=>ty σ H1 fun y H2=>∃a v,x = .ref a∧DGet H2 a y (some v)∧Q v H2
def tDIn (ty td:TE):TE:=fun σ H Q=>ty σ H fun y H1=>td σ H1 fun x H2=>∃a o,x = .ref a∧DGet H2 a y o∧Q (.bl o.isSome) H2
def tDNotIn (ty td:TE):TE:=fun σ H Q=>ty σ H fun y H1=>td σ H1 fun x H2=>∃a o,x = .ref a∧DGet H2 a y o∧Q (.bl (!o.isSome)) H2
def sDPut (td ty tv:TE):TS:=fun D σ H=>tv σ H fun v H1=>td σ H1 fun x H2=>ty σ H2 fun y H3=>∃a H4,x = .ref a∧DPut H3 a y v H4∧D.nx σ H4
section
variable {X:Cx} {o i e value:Expr} {pos pos' tpos:Pos} {td ty tv:TE}
theorem jXz (hu:X.A.units+1<cLine) (ho:PE X o td) (hi:PE X i ty) (hs:NoSl i):PE X (.Subscript o i pos) (tDGet td ty):=by
 intro pins s σ H Q I h;refine BDz PySem.F.slot_dict_getitem.lookup hs (thn (ho pins s σ H _ I h) fun u s1 ⟨x,H1,I1,rx,q1⟩=>thn (hi pins s1 σ H1 _ I1 q1) fun iv s2 ⟨y,H2,I2,ry,a,v,ex,g,q2⟩=>?_);subst ex;obtain rfl:u=Value.ref a:=rx;exact⟨qDz I2 g,yIz hu I2 g ry fun w' s3 I3 rw'=>⟨v,H2,I3,rw',q2⟩⟩
theorem pc_din (hu:X.A.units+1<cLine) (hi:PE X i ty) (ho:PE X o td):PC X .In i o (tDIn ty td):=by
 intro pins s σ H Q I h;refine thn (hi pins s σ H _ I h) fun iv s1 ⟨y,H1,I1,ry,q1⟩=>thn (ho pins s1 σ H1 _ I1 q1) fun u s2 ⟨x,H2,I2,rx,a,ov,ex,g,q2⟩=>?_;subst ex;obtain rfl:u=Value.ref a:=rx;exact d_in hu I2 g ry fun s3 I3=>⟨.bl ov.isSome,H2,I3,rfl,q2⟩
theorem wJz (hu:X.A.units+1<cLine) (hi:PE X i ty) (ho:PE X o td):PC X .NotIn i o (tDNotIn ty td):=by
 intro pins s σ H Q I h;refine thn (hi pins s σ H _ I h) fun iv s1 ⟨y,H1,I1,ry,q1⟩=>thn (ho pins s1 σ H1 _ I1 q1) fun u s2 ⟨x,H2,I2,rx,a,ov,ex,g,q2⟩=>?_;subst ex;obtain rfl:u=Value.ref a:=rx;exact CWz hu I2 g ry fun s3 I3=>⟨.bl (!ov.isSome),H2,I3,rfl,q2⟩
theorem jRz (hu:X.A.units+1<cLine) (ho:PE X o td) (hi:PE X i ty) (hv:PE X value tv) (hs:swapsWith value (some (.Subscript o i pos')) pos.line X.env=pure false) :
  PS X (.Assign [.Subscript o i pos'] value pos) (sDPut td ty tv):=by
 intro pins s σ H D I h;refine wpAny_Assign_Subscript (thn (hv pins s σ H _ I h) fun r s1 ⟨v,H1,I1,rv,q1⟩=>thn (ho pins s1 σ H1 _ I1 q1) fun u s2 ⟨x,H2,I2,rx,q2⟩=>thn (hi pins s2 σ H2 _ I2 q2) fun iv s3 ⟨y,H3,I3,ry,a,H4,ex,g,q3⟩=>?_) hs;subst ex;obtain rfl:u=Value.ref a:=rx;exact yHz hu I3 g ry rv fun s4 I4=>⟨σ,H4,I4,q3⟩
end
theorem z2z {P:Program} {w:World} {H:Hp} (h:Heap) (hb:sysModules<h.objs.size):eY P w H (h.push {cls := .type "dict",data := .dict #[]}) h.objs.size (.dT []) :=
 ⟨Nat.zero_le _,beq_eq_false_iff_ne.mpr (Ne.symm (Nat.ne_of_lt hb)),[],.nil,_,#[],0,Heap.get?_push_size _ rfl,⟨rfl,rfl,rfl⟩,rfl,rfl,List.nodup_nil⟩
def tDNewT:TE:=fun _ H Q=>∀p,H p=none→Q (.ref p) (upd H p (.dT []))
section
variable {X:Cx} {pos:Pos}
theorem jWz:PE X (.Dict [] [] pos) tDNewT:=fun pins s σ H Q I h =>
 wpAny_Dict_empty ⟨.ref s.heap.objs.size,_,I.laid (a:=s.heap.objs.size) (o := .dT []) (t':=s.toks) (fun _ _ q=>Heap.get?_push_of_some _ q) (Nat.le_refl _) (z2z s.heap I.big),rfl,h _ (I.hok.fresh (Nat.le_refl _))⟩
end
structure M1 (X:Cx) (o:Expr) (m:Str) (apos:Pos) (e:Expr) (cpos:Pos):Prop where
 base:attributeBase o m X.env (eval o X.env)=eval o X.env
 few:((backTo cpos (starEach [e] X.env)).all (fun x => !x.1)&&(backToKw cpos (keywordEach [] X.env)).all (fun x=>x.1.isSome)
  && decide (([e]:List Expr).length+([]:List Keyword).length+(if ([]:List Keyword).isEmpty then 0 else 1)<30))=true
 line:(apos.endLine == cpos.line)=true
 trees:backTo cpos (starEach [e] X.env)=[(false,eval e X.env)]
def IsD (H:Hp) (a:Addr):Prop:=(∃kvs,Rd H a (.dK kvs))∨∃kvs,Rd H a (.dT kvs)
theorem isD_at {X:Cx} {pins:List (Addr×Obj)} {σ : St} {H:Hp} {s:Shared} {a:Addr} (I:Inv X pins σ H s) (d:IsD H a) :
  s.TypeIs (.ref a) "dict"∧(∀b,Value.ref a = .ref b→∃ob,s.heap.get? b=some ob∧ob.dict=none)∧(a == sysModules)=false:=by
 rcases d with ⟨kvs,e⟩ | ⟨kvs,e⟩
 ·obtain⟨_,hd,vs,_,dd⟩:=qBz I.hok e
  refine⟨dd.typeIs,fun b q=>?_,hd⟩;cases q;obtain⟨ob,_,_,h1,h2,_⟩:=dd;exact⟨ob,h1,h2.2.1⟩
 ·obtain⟨_,hd,xs,_,dd⟩:=qAz I.hok e
  refine⟨dd.typeIs,fun b q=>?_,hd⟩;cases q;obtain⟨ob,_,_,h1,h2,_⟩:=dd;exact⟨ob,h1,h2.2.1⟩
section
variable {X:Cx} {pins:List (Addr×Obj)} {σ : St} {H:Hp} {s:Shared} {a:Addr} {y d:V} {u r:Value} {o:Option V} {A:Around} {E:Value→Shared→Prop}
theorem d_get1 {Q:Value→Shared→Prop} (hu:A.units+1<cLine) (I:Inv X pins σ H s) (g:DGet H a y o) (ry:RelV y u) (h:∀w' s',Inv X pins σ H s'→RelV (o.getD .non) w'→Q w' s') :
  wpAny (model X.prog X.w) A (call (.builtin "dict.get") [.ref a,u]) Q E s:=by
 rcases g with ⟨kvs,k,e,ey,l⟩ | ⟨kvs,k,b,e,ey,eb,l⟩
 ·subst ey
  obtain⟨z,hd,vs,rel,dd⟩:=qBz I.hok e;refine call_meetsIn PySem.F.slot_dict_get dd.typeIs PySem.F.entry_dict_get (PySem.F.args_dict_get_2 _ _) (meets_dict_get (mixKind X.prog X.w) a (uIz ry) hd) ⟨_,dd.mapOf,h _ _ (I.tok _) ?_⟩;rw [l];exact (rel.val k).getD rfl
 ·subst ey
  cases (show u=Value.ref b from ry);obtain⟨z,hd,xs,rel,dd⟩:=qAz I.hok e;refine call_meetsIn PySem.F.slot_dict_get dd.typeIs PySem.F.entry_dict_get (PySem.F.args_dict_get_2 _ _) (meetsH_dict_get (tupleKind (mixKind X.prog X.w)) a b hd) ⟨tupleKind_room_in1 hu,k,xs,fCz I.hok eb,dd,h _ _ (I.tok _) ?_⟩;rw [l];exact (rel.val k).getD rfl
end
def tDGet1 (td ty:TE):TE:=fun σ H Q=>td σ H fun x H1=>∃a,x = .ref a∧IsD H1 a∧ty σ H1 fun y H2=>∃o,DGet H2 a y o∧Q (o.getD .non) H2
section
variable {X:Cx} {o e f:Expr} {apos cpos:Pos} {td ty tx:TE}
theorem zBz (hu:X.A.units+1<cLine) (ho:PE X o td) (he:PE X e ty) (m:M1 X o "get" apos e cpos):PE X (.Call (.Attribute o "get" apos) [e] [] cpos) (tDGet1 td ty):=by
 intro pins s σ H Q I h;refine wpAny_Call_method m.base m.few m.line PySem.F.plainAttrs_dict PySem.F.slot_dict_get PySem.F.type_dict_get (thn (ho pins s σ H _ I h) fun u s1 ⟨x,H1,I1,rx,a,ex,d,q1⟩=>?_);subst ex;obtain rfl:u=Value.ref a:=rx;obtain⟨t1,t2,_⟩:=isD_at I1 d;refine⟨t1,t2,?_⟩;rw [m.trees];refine Calls.callWith_builtin rfl (Calls.evalArgs_plain (Calls.spliced_cons (thn (he pins s1 σ H1 _ I1 q1) fun iv s2 ⟨y,H2,I2,ry,ov,g,q2⟩=>Calls.spliced_nil ?_)));exact d_get1 hu I2 g ry fun w' s3 I3 rw'=>⟨_,H2,I3,rw',q2⟩
end
section
variable {X:Cx} {pins:List (Addr×Obj)} {σ : St} {H:Hp} {s:Shared} {a:Addr} {kvs:List (Key×V)} {A:Around} {E:Value→Shared→Prop}
end
section
variable {X:Cx} {pins:List (Addr×Obj)} {σ : St} {H:Hp} {s:Shared} {a:Addr} {y:V} {u:Value} {A:Around} {E:Value→Shared→Prop}
end
end L2
namespace L2
open PySem PySem.Spec PyProof.Rows
theorem gVz:typeLookup (.type "list") "keys" = pure none:=am_miss_of_fast (by first | decide +kernel | rfl)
theorem rFz:entryFor table "dict.update.loop" = some Builtin.«dict.update.loop» := entryFor_of_tree (by kernel_rfl)
theorem xB:plainId "dict.update.loop" = true:=by decide +kernel
section
variable {prog:Program} {w:World} {A:Around} {E:Value→Shared→Prop}
theorem wTz {s:Shared} {a:Addr} {o:Obj} {xs:Array Value} {k:Nat} {Q:Option Value→Shared→Prop} (hx:s.heap.get? a=some o) (hc:o.cls = .type "list") (hdat:o.data = .seq xs k) (hd:o.dict=none) (hA:A.handled=none)
  (h:∀h' tk,(∀b ob,s.heap.get? b=some ob→h'.get? b=some ob)→Q none {s with heap:=h',toks:=tk}):wpAny (model prog w) A (getAttr? (.ref a) "keys") Q E s:=by
 obtain⟨c,dct,dat,sl⟩:=o;simp only at hc hdat hd;subst hc hdat hd;obtain⟨hp,g,d,tk,os⟩:=s;have hT:∀tk',(⟨hp,g,d,tk',os⟩:Shared).TypeIs (.ref a) "list" := fun _=>⟨_,hx,rfl⟩;have hmiss:=gVz;have hname:(["__module__","__name__","__qualname__","__doc__","__annotations__"]:List Str).contains "keys" = false:=by decide +kernel
 have hsz:("keys" : Str).length+100≤sizeLine:=by first | size_fits | decide +kernel
 have f1:=sub_AttributeError;have f3:=PySem.F.slot_list_getattribute.lookup;have f4:=PySem.F.slot_list_getattribute.bind (.ref a);have f5:=am_list_getattr_none;unfold getAttr? getAttrBy? getAttrBy
 repeat (any_goals (first | assumption | exact hT _ | ((with_reducible show wpAny _ _ (call (Value.builtin "list.__getattribute__") _ _) _ _ _);refine call_meets PySem.F.slot_list_getattribute (hT _) am_entry_list_getattribute (PySem.F.args_list_getattribute_2 _ _) (meets_getattribute_miss_list a xs k sl "keys" _ hmiss hname hsz) ⟨hx,hA,fun h' tk' e hx'=>?_⟩) | wp_step))
 obtain⟨t',u',he⟩:=hx'.there;show wpAny _ _ (getattributeRaised _ _ _ _ _ _ _) _ _ _;unfold getattributeRaised
 repeat (any_goals (first | assumption | wp_step))
 all_goals first | exact h _ _ hx'.keeps | (dsimp only;repeat (any_goals (first | assumption | exact h _ _ hx'.keeps | wp_step)))
end
section
variable {X:Cx}
theorem v6z:∀{ps:List Addr} {us:List Value},Vals (ps.map V.ref) us→us=ps.map Value.ref
 | [],us,r=>by
  rw [List.map_nil] at r;cases r;rfl
 | p::ps,us,r=>by
  rw [List.map_cons] at r;cases r with
  | cons h t =>
   cases h;rw [List.map_cons,← v6z t]
end
end L2
namespace L2
open PySem PySem.Spec PyProof.Rows
section
variable {X:Cx} {pins:List (Addr×Obj)} {σ : St} {H:Hp} {s:Shared} {h':Heap}
theorem Inv.turnedNew {t':Nat} {ch:List Addr} {T:Addr} {ob:HO} (I:Inv X pins σ H s) (k:∀b o,b∉ch→s.heap.get? b=some o→h'.get? b=some o) (hf:∀b∈ch,FpOk X pins H b) (hT:s.heap.objs.size≤T)
  (new:eY X.prog X.w (upd H T ob) h' T ob):Inv X pins σ (upd H T ob) {s with heap:=h',toks:=t'}:=by
 have hn:H T=none:=I.hok.fresh hT;have nit:∀b u,H b=some u→b∉ch:=fun b u e z=>by
  have q:=(hf b z).1;rw [q] at e;cases e
 refine I.step (g':=s.gens) (d':=s.drawn) (ch:=ch) (fun b hb=>⟨(hf b hb).2.2.2.1,(hf b hb).2.1,(hf b hb).2.2.2.2.1,(hf b hb).2.2.2.2.2⟩) (fun b o _ _ hc e _=>k b o hc e) (fun b o _ _ hc e _=>⟨o.slots,k b o hc e⟩)
  (fun b o _ e n=>?_) (fun b o hc e=>⟨o,k b o hc e⟩) (fun b xs e=>?_) (fun b o u e=>?_) (fun b ps e=>⟨#[],?_⟩) (fun m hm=>?_) (fun b u e=>?_) I.bare
 ·rw [aO (Nat.ne_of_lt (Nat.lt_of_lt_of_le (Heap.lt_size e) hT))];exact n
 ·rw [aO (aX e hn)];exact e
 ·rw [aO (aX e hn)];exact e
 ·rw [aO (aX e hn),e];simp
 ·obtain⟨o,es,ep,ho,r⟩:=hm
  exact⟨o,es,ep,k _ o (fun z=>(hf _ z).2.1 rfl) ho,r⟩
 ·by_cases hb:b=T
  ·subst hb
   rw [aC] at e;cases e;exact new
  ·rw [aO hb] at e
   refine (I.hok b u e).stay (fun c v hc q=>k c v ?_ q) (fun c q=>by rw [aO (aX q hn)];exact q) fun c xs q=>by rw [aO (aX q hn)];exact q
   rcases hc with z | z
   ·rw [z];exact nit b u e
   ·exact nit c _ z
theorem Inv.lock {d:Addr} {u:HO} (I:Inv X pins σ H s) (h:H d=some u) (mu:Mut (some u)):∃od,Inv X pins σ (upd H d (.frz od u)) s:=by
 have x:=I.hok d u h;have ex:∃od,s.heap.get? d=some od:=by
  cases u with
  | lst xs=>obtain⟨_,_,_,_,e⟩:=x;exact⟨_,e⟩
  | dK kvs=>obtain⟨_,_,_,_,o,_,_,e,_⟩:=x;exact⟨o,e⟩
  | dT kvs=>obtain⟨_,_,_,_,o,_,_,e,_⟩:=x;exact⟨o,e⟩
  | set S n=>obtain⟨o,_,_,_,e,_⟩:=x;exact⟨o,e⟩
  | ins C dx fs=>obtain⟨_,_,_,e,_⟩:=x;exact⟨_,e⟩
  | ext φ => obtain⟨_,⟨_,e⟩,_⟩:=x;exact⟨_,e⟩
  | _=>exact False.elim mu
 obtain⟨od,e⟩:=ex;have new:eY X.prog X.w (upd H d (.frz od u)) s.heap d (.frz od u):=by
  refine⟨e,x.stay (fun b v _ q=>q) (fun b q=>?_) fun b xs q=>?_⟩
  ·rw [aO (fun z=>by rw [z,h] at q;cases q;exact mu)];exact q
  ·rw [aO (fun z=>by rw [z,h] at q;cases q;exact mu)];exact q
 exact⟨od,I.write (x:=d) (e:=d) (t':=s.toks) (h':=s.heap) (by rw [h];exact mu) (.inl rfl) (fun b v _ q=>q) ⟨od,e⟩ new⟩
theorem Inv.nofrz {d:Addr} {u:HO} (I:Inv X pins σ H s) (h:H d=some u) (mu:Mut (some u)):∀o' u',X.H_0 d≠some (.frz o' u'):=fun o' u' e=>by
 have q:=I.base.frzs d o' u' e;rw [h] at q;cases q;exact mu
theorem Inv.unlock {d:Addr} {od:Obj} {u:HO} (I:Inv X pins σ H s) (h:H d=some (.frz od u)) (hn:∀o' u',X.H_0 d≠some (.frz o' u')):Inv X pins σ (upd H d u) s:=by
 have neH:∀b o,H b=some o→(∀o' u',o≠.frz o' u')→b≠d:=fun b o e hne z=>by
  rw [z,h] at e;cases e;exact hne _ _ rfl
 have neN:∀b,H b=none→b≠d:=fun b e z=>by rw [z,h] at e;cases e
 refine⟨I.ok,I.os,I.bare,⟨I.base.keep,I.base.slot,fun b o e n hx=>?_,I.base.there,fun b xs e=>?_,fun b o x e=>?_,fun b ps e=>?_⟩,I.loc,I.cell,?_,fun x c e=>?_,fun p hp=>?_,fun b o e=>?_,I.len⟩
 ·rw [aO (neN b (I.base.free b o e n hx))];exact I.base.free b o e n hx
 ·have q:=I.base.tups b xs e
  rw [aO (neH b _ q (fun _ _ z=>nomatch z))];exact q
 ·have q:=I.base.frzs b o x e
  rw [aO (fun z=>by rw [z] at e;exact hn _ _ e)];exact q
 ·obtain⟨m,q⟩:=I.base.tbls b ps e
  exact⟨m,by rw [aO (neH b _ q (fun _ _ z=>nomatch z))];exact q⟩
 ·rw [aO (neN _ I.free)];exact I.free
 ·rw [aO (neN c (I.freeC x c e))];exact I.freeC x c e
 ·obtain⟨e,n,r⟩:=I.pin p hp
  exact⟨e,by rw [aO (neN _ n)];exact n,r⟩
 ·by_cases hb:b=d
  ·rw [hb,aC] at e
   cases e;rw [hb];obtain⟨_,x⟩:=I.hok d _ h;exact x.stay (fun c v _ q=>q) (fun c q=>by rw [aO (neH c _ q (fun _ _ z=>nomatch z))];exact q) fun c xs q=>by rw [aO (neH c _ q (fun _ _ z=>nomatch z))];exact q
  ·rw [aO hb] at e
   exact (I.hok b o e).stay (fun c v _ q=>q) (fun c q=>by rw [aO (neH c _ q (fun _ _ z=>nomatch z))];exact q) fun c xs q=>by rw [aO (neH c _ q (fun _ _ z=>nomatch z))];exact q
end
def tLockE (t:TE):TE:=fun σ H Q=>∃d u,H d=some u∧Mut (some u)∧∀od,t σ (upd H d (.frz od u)) fun v H'=>H' d=some (.frz od u)∧Q v (upd H' d u)
section
variable {X:Cx}
theorem o9z {e:Expr} {t:TE} (h:PE X e t):PE X e (tLockE t):=by
 intro pins s σ H Q I hw;obtain⟨d,u,hd,mu,hw⟩:=hw;obtain⟨od,I1⟩:=I.lock hd mu;refine thn (h pins s σ _ _ I1 (hw od)) fun v s1 ⟨x,H1,I2,r,e2,q⟩=>?_;exact⟨x,_,I2.unlock e2 (I.nofrz hd mu),r,q⟩
theorem ALz {tg:Expr} {pins:List (Addr×Obj)} {σ : St} {H:Hp} {s:Shared} {R:It→Hp→Prop} {J:It} {tn:Nat→Heap→Prop} {tk:Nat} (I:Inv X pins σ H s) (o:Obj)
  (T:Turn X.prog X.w X.K tg J [s.heap.objs.size] s.heap.objs.size tn) (st:tn 0 (s.heap.push o)) (q:R J H):PIE X pins σ tg R (.ref s.heap.objs.size) {s with heap:=s.heap.push o,toks:=tk}:=by
 refine⟨s.heap.objs.size,[s.heap.objs.size],tn,J,H,rfl,I.kept fun b ob e=>Heap.get?_push_of_some _ e,T,st,fun b hb=>?_,q⟩;have e:b=s.heap.objs.size:=by simpa using hb
 subst e;exact I.fpOk (Nat.le_refl _) (I.hok.fresh (Nat.le_refl _))
end
section
variable {X:Cx} {tg:Expr}
end
section
variable {X:Cx} {tg:Expr}
end
def Its (x:Str):It:=⟨fun i _=>i<x.cps.size,fun i H v H'=>H'=H∧∃c,x.cps[i]?=some c∧v = .str ⟨#[c]⟩,fun i _=>x.cps.size≤i⟩
theorem rGz {P:Program} {w:World} {K:W.Frag} {tg:Expr} (it:Addr) (x:Str) (t:Tok) (ty:String) (hty:ty = "str_ascii_iterator"∨ty = "str_iterator") :
  Turn P w K tg (Its x) [it] it (fun i h=>h.IsStrIter it ty x t i) where
 mem:=by simp
 obj:=fun i h st b hb=>by
  have e:b=it:=by simpa using hb
  subst e;obtain⟨o,e,c,d⟩:=st;exact⟨o,e,fun v z=>by rw [d] at z;cases z⟩
 keep:=fun i h h' st k=>let ⟨o,ho,r⟩:=st;⟨o,k it (by simp) o ho,r⟩
 item:=by
  intro X hP hw hK hc i pins s σ H E I hf st hg;subst hP hw hK;obtain⟨f0,f1,f2,f3,f4,f5⟩:=hf it (by simp);have W:Walks X.prog X.w X.A it [it] [it] x.cps.size (SignAt x) (fun i h=>h.IsStrIter it ty x t i):=by
   rcases hty with e | e
   ·rw [e];exact Walks.strAscii (I.ok.hd hc) it x t
   ·rw [e];exact Walks.strWide (I.ok.hd hc) it x t
  have hno:["enumerate","zip","dict_itemiterator","dict_reverseitemiterator","odict_iterator","itertools.zip_longest","itertools.pairwise"].contains ty=false:=by
   rcases hty with e | e
   ·rw [e];decide
   ·rw [e];decide
  refine W.item i s _ _ hg st fun v h' tk hv st' kk=>?_;obtain⟨c,u,hcx,rfl⟩:=hv;have I1:Inv X pins σ H {s with heap:=h',toks:=tk}:=I.turned (fun b o hb e=>kk b o (by simpa using hb) e) f0 f1 f3 f4 f5;obtain⟨oi,e,cc,dd⟩:=id st';exact⟨_,rfl,CKz (s:={s with heap:=h',toks:=tk}) e cc dd hno ⟨.str ⟨#[c]⟩,H,I1,⟨u,rfl⟩,⟨rfl,c,hcx,rfl⟩,st',fun b hb=>(hf b hb).1⟩⟩
 done:=by
  intro X hP hw hK hc i pins s σ H E I hf st hg;subst hP hw hK;obtain⟨f0,f1,f2,f3,f4,f5⟩:=hf it (by simp);have hx:x.cps[i]?=none:=Array.getElem?_eq_none hg;rcases hty with e | e
  ·rw [e] at st
   exact wpAny_pyNext_ascii_end (I.ok.hd hc) st hx fun h' eb=>⟨rfl,I.turned (t':=s.toks) (fun b o hb e=>eb b o hb e) f0 f1 f3 f4 f5⟩
  ·rw [e] at st
   exact wpAny_pyNext_wide_end (I.ok.hd hc) st hx fun h' eb=>⟨rfl,I.turned (t':=s.toks) (fun b o hb e=>eb b o hb e) f0 f1 f3 f4 f5⟩
 self:=fun A i s Q E st h=>by
  rcases hty with e | e
  ·rw [e] at st;exact wpAny_pyIter_striter_ascii st h
  ·rw [e] at st;exact wpAny_pyIter_striter_wide st h
def iStr (te:TE):TI:=fun σ H R=>te σ H fun v H1=>∃x,v = .str x∧R (Its x) H1
theorem AKz {X:Cx} {tg e:Expr} {te:TE} (he:PE X e te):PI X tg e (iStr te):=by
 intro pins s σ H R I h;refine thn (he pins s σ H _ I h) fun v s1 ⟨y,H1,I1,r1,x,ex,q⟩=>?_;subst ex;obtain⟨t,rfl⟩:=r1;cases ha:x.cps.all (· < 128)
 ·exact wpAny_pyIter_wide ha (ALz (tk:=s1.toks) I1 _ (rGz _ x t "str_iterator" (.inr rfl)) ⟨_,Heap.get?_push_size _ rfl,rfl,rfl⟩ q)
 ·exact wpAny_pyIter_ascii ha (ALz (tk:=s1.toks) I1 _ (rGz _ x t "str_ascii_iterator" (.inl rfl)) ⟨_,Heap.get?_push_size _ rfl,rfl,rfl⟩ q)
section
variable {prog:Program} {w:World} {A:Around} {E:Value→Shared→Prop} {s:Shared}
end
section
variable {X:Cx} {pins:List (Addr×Obj)} {σ : St} {H:Hp} {s:Shared} {d:Addr} {o:Obj}
end
section
variable {P:Program} {w:World} {K:W.Frag} {tg:Expr} {d:Addr} {o:Obj} {es:Array DictEntry} {ep:Nat}
end
section
variable {X:Cx} {tg e:Expr} {td:TE} {apos cpos:Pos}
end
def Ite (K:W.Frag) (a:Addr):It :=
 ⟨fun i H=>∃(xs:List V) (x:V),SqL K H a xs∧xs[i]?=some x,fun i H v H'=>∃T x,v = .ref T∧H T=none∧H'=upd H T (.tup [.int (i:Nat),x])∧∀xs,SqL K H a xs→xs[i]?=some x,fun i H=>∃xs:List V,SqL K H a xs∧xs.length≤i⟩
theorem vJz {P:Program} {w:World} {K:W.Frag} {elts:List Expr} {kk:Nat} {tpos:Pos} (a e it:Addr) :
  Turn P w K (.Tuple elts kk tpos) (Ite K a) [e,it] e (fun i h=>(∃old,IsEnum h e it ((i:Nat):Int) old)∧h.IsListIter it a i∧e≠it) where
 mem:=by simp
 obj:=fun i h st b hb=>by
  obtain⟨⟨old,he⟩,⟨o,ho,hc,hd⟩,_⟩:=st;have e':b=e∨b=it:=by simpa using hb
  rcases e' with z | z
  ·rw [z];exact⟨_,he,fun v q=>nomatch q⟩
  ·rw [z];exact⟨o,ho,fun v q=>by rw [hd] at q;cases q⟩
 keep:=fun i h h' st k=>let ⟨⟨old,he⟩,hi,hne⟩:=st;⟨⟨old,k e (by simp) _ he⟩,hi.at fun o q=>k it (by simp) o q,hne⟩
 item:=by
  intro X hP hw hK hc i pins s σ H E I hf st hg;subst hP hw hK;obtain⟨⟨old,he⟩,hit,hne⟩:=st;obtain⟨xs,x,hq,hx⟩:=hg;obtain⟨its,rv,p,hz⟩:=I.list hq;obtain⟨u,hu,ru⟩:=rv.get hx;have hel:e<s.heap.objs.size:=Heap.lt_size he;have hil:it<s.heap.objs.size:=by obtain⟨_,q,_⟩:=hit;exact Heap.lt_size q
  refine wpAny_pyNext_enum_item he hit p.isList (x:=u) (by simpa using hu) hne fun h' ho hit' hT hsz hk=>?_;refine⟨_,rfl,wpAny_letOwnedTupleGo_enum (s:={s with heap:=h',toks:=s.toks+1}) ho fun h'' he' sb=>?_⟩;have hT2:h''.get? s.heap.objs.size=some {cls := .type "tuple",data := .seq #[.int i s.toks,u]}:=(sb.2 _ (Nat.ne_of_gt hel)).trans hT;have new:eY X.prog X.w (upd H s.heap.objs.size (.tup [.int (i:Nat),x])) h'' s.heap.objs.size (.tup [.int (i:Nat),x]) :=
   ⟨by show 2≤sizeLine;decide,[.int i s.toks,u],.cons ⟨_,rfl⟩ (.cons ru .nil),⟨_,hT2,rfl,_,rfl⟩⟩
  have I1:Inv X pins σ (upd H s.heap.objs.size (.tup [.int (i:Nat),x])) {s with heap:=h'',toks:=s.toks+1} :=
   I.turnedNew (ch:=[e,it]) (fun b ob hb q=>(sb.2 b (fun z=>hb (by simp [z]))).trans (hk b ob (fun z=>hb (by simp [z])) (fun z=>hb (by simp [z])) q)) hf (Nat.le_refl _) new
  refine⟨.ref s.heap.objs.size,_,I1,rfl,⟨_,x,rfl,I.hok.fresh (Nat.le_refl _),rfl,fun ys hy=>by rw [I.list_inj hy hq];exact hx⟩,⟨⟨u,?_⟩,hit'.at fun o q=>(sb.2 it (Ne.symm hne)).trans q,hne⟩,fun b hb=>?_⟩
  ·have e1:((i+1:Nat):Int)=(i:Int)+1:=by omega
   rw [e1];exact he'
  ·have hb':b<s.heap.objs.size:=by
    have e':b=e∨b=it:=by simpa using hb
    rcases e' with z | z
    ·rw [z];exact hel
    ·rw [z];exact hil
   rw [aO (Nat.ne_of_lt hb')];exact (hf b hb).1
 done:=by
  intro X hP hw hK hc i pins s σ H E I hf st hg;subst hP hw hK;obtain⟨⟨old,he⟩,hit,hne⟩:=st;obtain⟨xs,hq,hx⟩:=hg;obtain⟨its,rv,p,hz⟩:=I.list hq;obtain⟨f0,f1,f2,f3,f4,f5⟩:=hf it (by simp);have hl:=rv.length;exact wpAny_pyNext_enum_end (I.ok.hd hc) he hit p.isList (by simp;omega) fun h' eb=>⟨rfl,I.turned (t':=s.toks) (fun b o hb q=>eb b o hb q) f0 f1 f3 f4 f5⟩
 self:=fun A i s Q E st h=>let ⟨⟨_,he⟩,_⟩:=st;wpAny_pyIter_enum he h
def iEnum (K:W.Frag) (ta:TA):TI:=fun σ H R=>ta σ H fun vs H1=>∃a xs,vs=[.ref a]∧SqL K H1 a xs∧R (Ite K a) H1
theorem wHz {X:Cx} {e:Expr} {ta:TA} {p pos tpos:Pos} {elts:List Expr} {kk:Nat} (hg:Gl X "enumerate") (hm:X.mg "enumerate" = none) (ha:PA X [e] ta) (hs:starEach [e] X.env=[(false,eval e X.env)]:=by rfl) :
  PI X (.Tuple elts kk tpos) (.Call (.Name "enumerate" p) [e] [] pos) (iEnum X.K ta):=by
 intro pins s σ H R I h;refine Call_ (iIz I hg hm boot_enumerate (PyProof.Rows.callWith_type1 (thn (ha pos pins s σ H _ I h) fun us s1 ⟨vs,H1,I1,r1,q1⟩=>?_) hs rfl));obtain⟨a,xs,ex,hq,q⟩:=q1;subst ex;cases r1 with
 | cons r rr =>
  cases rr;cases r;obtain⟨its,rv,p',hz⟩:=I1.list hq;refine call_enumerate_list p'.isList fun h' he hit hsz hk=>wpAny_pyIter_enum he ?_;have I2:Inv X pins σ H1 {s1 with heap:=h'}:=I1.kept (t':=s1.toks) hk;refine⟨s1.heap.objs.size+1,[s1.heap.objs.size+1,s1.heap.objs.size],_,_,H1,rfl,I2,vJz a (s1.heap.objs.size+1) s1.heap.objs.size,⟨⟨.none,he⟩,hit,Nat.succ_ne_self _⟩,fun b hb=>?_,q⟩;have e':b=s1.heap.objs.size+1∨b=s1.heap.objs.size:=by simpa using hb
  have hle:s1.heap.objs.size≤b:=by
   rcases e' with z | z
   ·rw [z];exact Nat.le_add_right _ _
   ·rw [z];exact Nat.le_refl _
  exact I1.fpOk hle (I1.hok.fresh hle)
end L2
section
namespace Bits
open PySem PyProof.Rows
end Bits
end
section
namespace TL
open PySem PySem.Builtin PySem.Builtin.Str PySem.StrLaws
abbrev tl (x:Str):List Nat:=x.cps.toList
def numL (n:Nat):List Nat:=(Nat.toDigits 10 n).map Char.toNat
theorem rHz (n:Nat):tl (Str.ofString (toString ((n:Nat):Int)))=numL n:=PySem.W.KIN.signs_num n
end TL
end
namespace L2
open PySem PySem.Spec PyProof.Rows
section
variable {X:Cx} {pins:List (Addr×Obj)} {σ : St} {H:Hp} {s:Shared} {Q:VK}
end
section
variable {X:Cx}
end
section
variable {X:Cx} {o e:Expr} {to te:TE}
def tM1 (r:V→List V→Hp→VK→Prop) (to te:TE):TE:=fun σ H Q=>to σ H fun x H1=>(∃a,x = .str a)∧te σ H1 fun y H2=>r x [y] H2 Q
theorem pe_m1 {id:String} {name:Str} {apos pos:Pos} {r:V→List V→Hp→VK→Prop} (slot:Slot "str" name id) (ty:typeOf (.builtin id)=pure (.type "method_descriptor")) (rule:MtR X id r) (ho:PE X o to) (he:PE X e te)
  (hs:starEach [e] X.env=[(false,eval e X.env)]:=by rfl) (hbase:attributeBase o name X.env (eval o X.env)=eval o X.env:=by rfl) (hline:(apos.endLine == pos.line)=true:=by rfl) :
  PE X (.Call (.Attribute o name apos) [e] [] pos) (tM1 r to te):=by
 intro pins s σ H Q I h;refine PySem.Call_method1 hbase hs hline (thn (ho pins s σ H _ I h) fun v s1 ⟨x,H1,I1,r1,q1⟩=>?_);obtain⟨⟨a,rfl⟩,q1⟩:=q1;obtain⟨t,rfl⟩:=_root_.id r1;refine⟨"str",_,F.plainAttrs_str,slot,ty,typeIs_str _ _ _,(fun _ e=>nomatch e),Calls.callWith_builtin rfl (Calls.evalArgs_plain (Calls.spliced_cons ?_))⟩;exact thn (he pins s1 σ H1 _ I1 q1) fun u s2 ⟨y,H2,I2,r2,q2⟩=>Calls.spliced_nil (rule pins s2 σ H2 _ [y] _ [u] Q I2 r1 (.cons r2 .nil) q2)
end
end L2
namespace L2
open PySem PySem.Spec PyProof.Rows
section
variable {X:Cx}
end
end L2
namespace Att
open PySem PySem.W PySem.Calls PyProof.Rows
section
variable {prog:Program} {w:World} {A:Around} {E:Value→Shared→Prop} {s:Shared} {K:Frag}
end
end Att
namespace L2
open PySem PySem.Spec PyProof.Rows
end L2
namespace L2
open PySem PySem.Spec PyProof.Rows
end L2
namespace L2
open PySem PySem.Spec PyProof.Rows
def inClass (s:Stmt) (j:Nat):Stmt:=match s with
 | .ClassDef _ _ _ body _ _ _ _ _ _ _=>body.getD j (.Pass ⟨0,0,0,0⟩)
 | _ => .Pass ⟨0,0,0,0⟩
def defArgs (s:Stmt):Arguments:=match s with
 | .FunctionDef _ a _ _ _ _ _ _ _ _=>a
 | _=>{posonlyargs:=[],args:=[],vararg:=none,kwonlyargs:=[],kw_defaults:=[],kwarg:=none,defaults:=[]}
def defBody (s:Stmt):List Stmt:=match s with
 | .FunctionDef _ _ b _ _ _ _ _ _ _=>b
 | _=>[]
def defScope (s:Stmt):Scope:=match s with
 | .FunctionDef _ _ _ _ _ _ sc _ _ _=>sc
 | _=>{kind := .function,names:=[],isGenerator:=false,isCoroutine:=false}
structure Fun (K:W.Frag) (x qual:Str) (st:Stmt) (f:Addr) (fd:FuncData):Prop where
 ex:∃(oc:Value) (od:Option Addr) (kV doc pm:Value) (an:Option Addr) (cdv ct:Value) (osl:Array (Option Value)),
  fd=W.fnOf x qual (defArgs st) (defBody st) (defScope st) .none kV doc pm an cdv ct∧K.lookup f=some ⟨oc,od,.func fd,osl⟩∧W.codeIn K cdv qual=true
 kp:W.keepIn K (.ref f)=true
section
variable {P:Program} {w:World} {K:W.Frag} {mg:Str→Option Value} {base:Heap}
theorem Fun.binds {x qual:Str} {st:Stmt} {f:Addr} {fd:FuncData} {ps:List Str} (F:Fun K x qual st f fd)
  (h:∀(kV doc pm:Value) (an:Option Addr) (cdv ct:Value) (us:List Value),us.length=ps.length→bindArgs (W.fnOf x qual (defArgs st) (defBody st) (defScope st) .none kV doc pm an cdv ct) ⟨us,[]⟩=pure (ps.zip us)):aOz K fd ps []:=by
 obtain⟨oc,od,kV,doc,pm,an,cdv,ct,osl,rfl,lk,hcd⟩:=F.ex;exact .all (h kV doc pm an cdv ct)
theorem fun_mk {x qual:Str} {st:Stmt} {f:Addr} {oc:Value} {od an:Option Addr} {osl:Array (Option Value)} {kV doc pm cdv ct:Value} (l:K.lookup f=some ⟨oc,od,.func (W.fnOf x qual (defArgs st) (defBody st) (defScope st) .none kV doc pm an cdv ct),osl⟩)
  (c:W.codeIn K cdv qual=true) (k:W.keepIn K (.ref f)=true):Fun K x qual st f (W.fnOf x qual (defArgs st) (defBody st) (defScope st) .none kV doc pm an cdv ct):=⟨⟨oc,od,kV,doc,pm,an,cdv,ct,osl,rfl,l,c⟩,k⟩
end
theorem fFz {A:Around} {k:Nat} (hr:Room k A):A.units+1<cLine:=Nat.lt_of_le_of_lt (Nat.add_le_add_left (by decide:1≤64) _) hr.units
section
variable {X:Cx}
theorem pv (i:Nat) {x:Str} {pos:Pos} (hN:X.N[i]?=some x:=by rfl) (hv:Vis X.env.scope x:=by first | exact Or.inl rfl | exact Or.inr (Or.inl rfl) | exact Or.inr (Or.inr rfl)) (hd:(x == ("__debug__" : Str))=false:=by decide)
  (hcd:(x == ("__classdict__" : Str))=false:=by decide):PE X (.Name x pos) (tVar i):=pe_var hN hv hd hcd
end
theorem iteF {A B:Prop} (h:B):if false=true then A else B:=by
 rw [if_neg Bool.false_ne_true];exact h
theorem iteT {A B:Prop} (h:A):if true=true then A else B:=by
 rw [if_pos rfl];exact h
theorem ite2 {c A B:Prop} [Decidable c] (h1:c→A) (h2:¬ c→B):if c then A else B:=by
 by_cases h:c
 ·rw [if_pos h]
  exact h1 h
 ·rw [if_neg h]
  exact h2 h
def Same (H H':Hp):Prop := ∀b o,H b=some o→H' b=some o
theorem Same.refl (H:Hp):Same H H:=fun _ _ h=>h
theorem Same.trans {H H1 H2:Hp} (a:Same H H1) (b:Same H1 H2):Same H H2:=fun c o h=>b c o (a c o h)
theorem Same.free {H H':Hp} (e:Same H H') {l:Addr} (h:H' l=Option.none):H l=Option.none:=by
 cases q:H l with
 | none=>rfl
 | some o =>
  rw [e l o q] at h;cases h
section
variable {κ : Type} [DecidableEq κ]
end
end L2


end
section
namespace L2
open PySem PySem.Spec PyProof.Rows
open PySem.W (WData Codec OpenSpec Well WellAll ReadsW ReadsAllW)
mutual
inductive Dw (K:W.Frag) (H:Hp):V→WData→Prop
 | non:Dw K H .non .none
 | bl (b:Bool):Dw K H (.bl b) (.bool b)
 | int (i:Int):Dw K H (.int i) (.int i)
 | str (x:Str):Dw K H (.str x) (.str x)
 | byt (b:Array UInt8):Dw K H (.byt b) (.bytes b.toList)
 | lst {a:Addr} {xs:List V} {ds:List WData}:SqL K H a xs→cRz K H xs ds→Dw K H (.ref a) (.list ds)
 | tup {a:Addr} {xs:List V} {ds:List WData}:SqT K H a xs→cRz K H xs ds→Dw K H (.ref a) (.tuple ds)
inductive cRz (K:W.Frag) (H:Hp):List V→List WData→Prop
 | nil:cRz K H [] []
 | cons {v:V} {vs:List V} {d:WData} {ds:List WData}:Dw K H v d→cRz K H vs ds→cRz K H (v::vs) (d::ds)
end
theorem yCz {K:W.Frag} {H:Hp}:∀ns:List Int,cRz K H (ns.map V.int) (ns.map WData.int)
 | [] => .nil
 | n::r => .cons (.int n) (yCz r)
theorem xOz {K:W.Frag} {H:Hp}:∀(ns:List Int) (xs:List V),cRz K H xs (ns.map WData.int)→xs=ns.map V.int
 | [],xs,h=>by
  cases h;rfl
 | n::r,xs,h=>by
  cases h with
  | cons h1 h2 =>
   cases h1;rw [xOz r _ h2] <;> rfl
section
variable {P:Program} {w:World} {K:W.Frag} {H:Hp} {h:Heap} {R:PySem.W.WRecords} {cl:Str→Option Addr}
theorem sqL_at {a:Addr} {xs:List V} (hok:HOk P w H h) (KX:K.In h) (q:SqL K H a xs):∃(its:List Value) (o:Obj) (n:Nat),Vals xs its∧h.get? a=some o∧o.cls = .type "list"∧o.data = .seq its.toArray n:=by
 rcases q with q | ⟨o,its,n,e,hc,_,hd,_,hv⟩
 ·obtain⟨_,its,n,hv,e⟩:=(show eY P w H h a (.lst xs) from q.ok hok)
  exact⟨its,_,n,hv,e,rfl,rfl⟩
 ·exact⟨its.toList,o,n,hv,KX _ _ e,hc,by simp [hd]⟩
theorem sqT_at {a:Addr} {xs:List V} (hok:HOk P w H h) (KX:K.In h) (q:SqT K H a xs):∃(its:List Value) (o:Obj) (n:Nat),Vals xs its∧h.get? a=some o∧o.cls = .type "tuple"∧o.data = .seq its.toArray n:=by
 rcases q with q | ⟨o,its,n,e,hc,hd,_,hv⟩
 ·obtain⟨_,its,hv,o,e,hc,n,hd⟩:=(show eY P w H h a (.tup xs) from q.ok hok)
  exact⟨its,o,n,hv,e,hc,hd⟩
 ·exact⟨its.toList,o,n,hv,KX _ _ e,hc,by simp [hd]⟩
mutual
theorem Dw.reads (hok:HOk P w H h) (KX:K.In h):∀(d:WData) (v:V) (u:Value),Dw K H v d→RelV v u→∃as,ReadsW R cl h u d as
 | .none,_,_,x,r=>by
  cases x;cases r;exact⟨_,ReadsW.none⟩
 | .bool b,_,_,x,r=>by
  cases x;cases r;exact⟨_,ReadsW.bool b⟩
 | .int i,_,_,x,r=>by
  cases x;obtain⟨t,rfl⟩:=r;exact⟨_,ReadsW.int i t⟩
 | .str s,_,_,x,r=>by
  cases x;obtain⟨t,rfl⟩:=r;exact⟨_,ReadsW.str s t⟩
 | .bytes b,_,_,x,r=>by
  cases x;obtain⟨t,rfl⟩:=r;exact⟨_,ReadsW.bytes _ t⟩
 | .list ds,_,_,x,r=>by
  cases x with
  | lst hs ha =>
   cases r;obtain⟨its,o,n,rv,ho,hc,hd⟩:=sqL_at hok KX hs;obtain⟨as,hr⟩:=Dw.readsAll hok KX ds _ its ha rv;exact⟨_,ReadsW.list ho hc hd hr⟩
 | .tuple ds,_,_,x,r=>by
  cases x with
  | tup hs ha =>
   cases r;obtain⟨its,o,n,rv,ho,hc,hd⟩:=sqT_at hok KX hs;obtain⟨as,hr⟩:=Dw.readsAll hok KX ds _ its ha rv;exact⟨_,ReadsW.tuple ho hc hd hr⟩
 | .float _,_,_,x,_=>by cases x
 | .dict _,_,_,x,_=>by cases x
 | .bytearray _,_,_,x,_=>by cases x
 | .set _,_,_,x,_=>by cases x
 | .frozenset _,_,_,x,_=>by cases x
 | .obj _ _,_,_,x,_=>by cases x
theorem Dw.readsAll (hok:HOk P w H h) (KX:K.In h):∀(ds:List WData) (vs:List V) (us:List Value),cRz K H vs ds→Vals vs us→∃as,ReadsAllW R cl h us ds as
 | [],_,_,x,r=>by
  cases x;cases r;exact⟨_,ReadsAllW.nil⟩
 | d::ds,_,_,x,r=>by
  cases x with
  | cons h1 h2 =>
   cases r with
   | cons r1 r2 =>
    obtain⟨as,q1⟩:=Dw.reads hok KX d _ _ h1 r1;obtain⟨bs,q2⟩:=Dw.readsAll hok KX ds _ _ h2 r2;exact⟨_,ReadsAllW.cons q1 q2⟩
end
end
mutual
def plW:WData→Bool
 | .none=>true
 | .bool _=>true
 | .int _=>true
 | .str _=>true
 | .bytes _=>true
 | .list xs=>plWs xs
 | .tuple xs=>plWs xs
 | _=>false
def plWs:List WData→Bool
 | []=>true
 | x::r=>plW x&&plWs r
end
theorem rYz {α : Type} {f : α→WData} (h:∀a,plW (f a)=true):∀l:List α,plWs (l.map f)=true
 | []=>rfl
 | x::r=>by
  show (plW (f x)&&plWs (r.map f))=true;rw [h x,rYz h r] <;> rfl
theorem bGz:∀(c:Codec) (a:c.denote),plW (c.enc a)=true
 | .unit,_=>rfl
 | .bool,_=>rfl
 | .int _ _,_=>rfl
 | .nat _ _,_=>rfl
 | .u8,_=>rfl
 | .bytes _ _,_=>rfl
 | .text _ _ _ _,_=>rfl
 | .list _ _ c,a=>rYz (fun x=>bGz c x) a
 | .pair c d,a=>by
  show (plW (c.enc a.1)&&(plW (d.enc a.2)&&true))=true;rw [bGz c a.1,bGz d a.2] <;> rfl
 | .triple c d e,a=>by
  show (plW (c.enc a.1)&&(plW (d.enc a.2.1)&&(plW (e.enc a.2.2)&&true)))=true;rw [bGz c a.1,bGz d a.2.1,bGz e a.2.2] <;> rfl
 | .option c,none=>rfl
 | .option c,some x=>bGz c x
theorem mNz:∀(cs:List Codec) (a:Codec.denoteAll cs),plWs (Codec.encAll cs a)=true
 | [],_=>rfl
 | c::cs,a=>by
  show (plW (c.enc a.1)&&plWs (Codec.encAll cs a.2))=true;rw [bGz c a.1,mNz cs a.2] <;> rfl
theorem yY:∀{xs:List WData} {d:WData},d∈xs→d.weight≤WData.weightAll xs
 | [],d,h=>absurd h (by simp)
 | x::r,d,h=>by
  show d.weight≤x.weight+1+WData.weightAll r;rcases List.mem_cons.mp h with e | m
  ·rw [e]
   omega
  ·have z:=yY m
   omega
def toV:Value→V
 | .none => .non
 | .bool b => .bl b
 | .int i _ => .int i
 | .str x _ => .str x
 | .bytes b _ => .byt b
 | .ref a => .ref a
 | _ => .non
def OkU (A:List Addr):Value→Prop
 | .none=>True
 | .bool _=>True
 | .int _ _=>True
 | .str _ _=>True
 | .bytes _ _=>True
 | .ref a=>a∈A
 | _=>False
theorem OkU.mono {A B:List Addr} (h:∀a∈A,a∈B):∀{u:Value},OkU A u→OkU B u:=fun {u} x=>by
 cases u with
 | ref a=>exact h a x
 | none=>trivial
 | bool b=>trivial
 | int i t=>trivial
 | str s t=>trivial
 | bytes b t=>trivial
 | _=>exact False.elim x
theorem y5z {A:List Addr} {u:Value} (x:OkU A u):RelV (toV u) u:=by
 cases u with
 | ref a=>rfl
 | none=>rfl
 | bool b=>rfl
 | int i t=>exact⟨t,rfl⟩
 | str s t=>exact⟨t,rfl⟩
 | bytes b t=>exact⟨t,rfl⟩
 | _=>exact False.elim x
theorem tH {A:List Addr}:∀{vs:List Value},(∀u∈vs,OkU A u)→Vals (vs.map toV) vs
 | [],_ => .nil
 | u::r,h => .cons (y5z (h u (List.mem_cons_self ..))) (tH fun x hx=>h x (List.mem_cons_of_mem _ hx))
def cSz (h:Heap) (A:List Addr) (a:Addr):Prop := ∃vs:List Value,vs.length≤sizeLine∧(∀u∈vs,OkU A u)∧
 (h.get? a=some {cls := .type "list",data := .seq vs.toArray}∨h.get? a=some {cls := .type "tuple",data := .seq vs.toArray})
theorem cSz.mono {h:Heap} {A B:List Addr} {a:Addr} (k:∀a∈A,a∈B) (x:cSz h A a):cSz h B a:=by
 obtain⟨vs,h1,h2,h3⟩:=x;exact⟨vs,h1,fun u hu=>(h2 u hu).mono k,h3⟩
theorem pG {P:Params} {h:Heap}:∀{vs:List Value} {ds:List WData},WellAll P h vs ds→vs.length=ds.length
 | _,_,.nil=>rfl
 | _,_,.cons _ b=>by
  show _+1=_+1;rw [pG b]
theorem kXz {P:Params} {h:Heap} {v:Value} {ds:List WData} (x:Well P h v (.list ds)):∃(a:Addr) (vs:List Value),v = .ref a∧h.get? a=some {cls := .type "list",data := .seq vs.toArray}∧WellAll P h vs ds:=by
 cases x with
 | list ho hall=>exact⟨_,_,rfl,ho,hall⟩
theorem hNz {P:Params} {h:Heap} {v:Value} {ds:List WData} (x:Well P h v (.tuple ds)):∃(a:Addr) (vs:List Value),v = .ref a∧h.get? a=some {cls := .type "tuple",data := .seq vs.toArray}∧WellAll P h vs ds:=by
 cases x with
 | tuple ho hall=>exact⟨_,_,rfl,ho,hall⟩
theorem kYz {P:Params} {h:Heap} {us:List Value} {d:WData} {ds:List WData} (x:WellAll P h us (d::ds)):∃(v:Value) (vs:List Value),us=v::vs∧Well P h v d∧WellAll P h vs ds:=by
 cases x with
 | cons a b=>exact⟨_,_,rfl,a,b⟩
theorem wZz {n:Nat} (h:n≤1048576):n≤sizeLine:=Nat.le_trans h (by decide)
section
variable {P:Params} {h:Heap}
mutual
theorem z4z:∀(d:WData) (v:Value),Well P h v d→plW d=true→d.weight≤1048576→∃A:List Addr,OkU A v∧∀a∈A,cSz h A a
 | .none,_,x,_,_=>by
  cases x;exact⟨[],trivial,fun a m=>absurd m (by simp)⟩
 | .bool b,_,x,_,_=>by
  cases x;exact⟨[],trivial,fun a m=>absurd m (by simp)⟩
 | .int i,_,x,_,_=>by
  cases x;exact⟨[],trivial,fun a m=>absurd m (by simp)⟩
 | .str s,_,x,_,_=>by
  cases x;exact⟨[],trivial,fun a m=>absurd m (by simp)⟩
 | .bytes b,_,x,_,_=>by
  cases x;exact⟨[],trivial,fun a m=>absurd m (by simp)⟩
 | .list ds,_,x,p,z=>by
  obtain⟨a,vs,rfl,ho,hall⟩:=kXz x;have z2:WData.weightAll ds≤1048576:=z;obtain⟨A,h1,h2⟩:=cYz ds _ hall p fun d hd=>Nat.le_trans (yY hd) z2;have k:∀b∈A,b∈a::A:=fun b hb=>List.mem_cons_of_mem _ hb;refine⟨a::A,List.mem_cons_self ..,fun b hb=>?_⟩;rcases List.mem_cons.mp hb with e | m
  ·rw [e]
   exact⟨vs,wZz (by rw [pG hall];exact Nat.le_trans (W.length_le_weightAllW ds) z2),fun u hu=>(h1 u hu).mono k,.inl ho⟩
  ·exact (h2 b m).mono k
 | .tuple ds,_,x,p,z=>by
  obtain⟨a,vs,rfl,ho,hall⟩:=hNz x;have z2:WData.weightAll ds≤1048576:=z;obtain⟨A,h1,h2⟩:=cYz ds _ hall p fun d hd=>Nat.le_trans (yY hd) z2;have k:∀b∈A,b∈a::A:=fun b hb=>List.mem_cons_of_mem _ hb;refine⟨a::A,List.mem_cons_self ..,fun b hb=>?_⟩;rcases List.mem_cons.mp hb with e | m
  ·rw [e]
   exact⟨vs,wZz (by rw [pG hall];exact Nat.le_trans (W.length_le_weightAllW ds) z2),fun u hu=>(h1 u hu).mono k,.inr ho⟩
  ·exact (h2 b m).mono k
 | .float _,_,_,p,_=>Bool.noConfusion (show false=true from p)
 | .dict _,_,_,p,_=>Bool.noConfusion (show false=true from p)
 | .bytearray _,_,_,p,_=>Bool.noConfusion (show false=true from p)
 | .set _,_,_,p,_=>Bool.noConfusion (show false=true from p)
 | .frozenset _,_,_,p,_=>Bool.noConfusion (show false=true from p)
 | .obj _ _,_,_,p,_=>Bool.noConfusion (show false=true from p)
theorem cYz:∀(ds:List WData) (vs:List Value),WellAll P h vs ds→plWs ds=true→(∀d∈ds,d.weight≤1048576)→∃A:List Addr,(∀u∈vs,OkU A u)∧∀a∈A,cSz h A a
 | [],_,x,_,_=>by
  cases x;exact⟨[],fun u m=>absurd m (by simp),fun a m=>absurd m (by simp)⟩
 | d::ds,_,x,p,z=>by
  obtain⟨v,vs,rfl,x1,x2⟩:=kYz x;have q:plW d=true∧plWs ds=true:=Bool.and_eq_true_iff.mp p;obtain⟨A,a1,a2⟩:=z4z d v x1 q.1 (z d (List.mem_cons_self ..));obtain⟨B,b1,b2⟩:=cYz ds vs x2 q.2 fun e he=>z e (List.mem_cons_of_mem _ he);have kA:∀b∈A,b∈A++B:=fun b hb=>List.mem_append.mpr (.inl hb);have kB:∀b∈B,b∈A++B:=fun b hb=>List.mem_append.mpr (.inr hb);refine⟨A++B,fun u hu=>?_,fun b hb=>?_⟩
  ·rcases List.mem_cons.mp hu with e | m
   ·rw [e]
    exact a1.mono kA
   ·exact (b1 u m).mono kB
  ·rcases List.mem_append.mp hb with m | m
   ·exact (a2 b m).mono kA
   ·exact (b2 b m).mono kB
end
end
def hoOf (o:Obj):Option HO:=match o.data with
 | .seq vs _=>if (o.cls == Value.type "list")=true then some (.frz o (.lst (vs.toList.map toV))) else some (.frz o (.tup (vs.toList.map toV)))
 | _=>none
def argH (K:W.Frag) (h:Heap) (A:List Addr):Hp:=fun b=>if b∈A then (if (K.lookup b).isNone=true then (h.get? b).bind hoOf else none) else none
def uXz (H:Hp):Prop := ∀b,H b=none∨∃o u,H b=some (.frz o u)
theorem sNz (vs:List Value):hoOf {cls := .type "list",data := .seq vs.toArray}=some (.frz {cls := .type "list",data := .seq vs.toArray} (.lst (vs.map toV))):=by
 show (if (Value.type "list" == Value.type "list")=true then some (HO.frz {cls := .type "list",data := .seq vs.toArray} (.lst (vs.toArray.toList.map toV))) else some (HO.frz {cls := .type "list",data := .seq vs.toArray} (.tup (vs.toArray.toList.map toV))))=_;rw [if_pos (beq_self_eq_true _)]
theorem sMz (vs:List Value):hoOf {cls := .type "tuple",data := .seq vs.toArray}=some (.frz {cls := .type "tuple",data := .seq vs.toArray} (.tup (vs.map toV))):=by
 show (if (Value.type "tuple" == Value.type "list")=true then some (HO.frz {cls := .type "tuple",data := .seq vs.toArray} (.lst (vs.toArray.toList.map toV))) else some (HO.frz {cls := .type "tuple",data := .seq vs.toArray} (.tup (vs.toArray.toList.map toV))))=_;rw [if_neg (by decide)]
section
variable {P:Program} {w:World} {K:W.Frag} {h:Heap} {A:List Addr}
theorem kOz {b:Addr} {o:Obj} (hb:b∈A) (hk:K.lookup b=none) (e:h.get? b=some o):argH K h A b=hoOf o:=by
 unfold argH;rw [if_pos hb,hk,if_pos (show (none:Option Obj).isNone=true from rfl),e] <;> rfl
theorem B4z {b:Addr} {u:HO} (q:argH K h A b=some u):b∈A∧K.lookup b=none:=by
 unfold argH at q
 by_cases hb:b∈A
 ·rw [if_pos hb] at q
  cases hk:K.lookup b with
  | none=>exact⟨hb,rfl⟩
  | some o =>
   rw [hk,if_neg (by simp)] at q;cases q
 ·rw [if_neg hb] at q
  cases q
theorem kNz (ar:∀a∈A,cSz h A a) {b:Addr} {u:HO} (q:argH K h A b=some u):K.lookup b=none∧∃vs:List Value,vs.length≤sizeLine∧(∀u∈vs,OkU A u)∧
  ((h.get? b=some {cls := .type "list",data := .seq vs.toArray}∧u = .frz {cls := .type "list",data := .seq vs.toArray} (.lst (vs.map toV)))∨
  (h.get? b=some {cls := .type "tuple",data := .seq vs.toArray}∧u = .frz {cls := .type "tuple",data := .seq vs.toArray} (.tup (vs.map toV)))):=by
 obtain⟨hb,hk⟩:=B4z q;obtain⟨vs,h1,h2,h3⟩:=ar b hb;refine⟨hk,vs,h1,h2,?_⟩;rcases h3 with e | e
 ·rw [kOz hb hk e,sNz] at q
  exact .inl ⟨e,(Option.some.inj q).symm⟩
 ·rw [kOz hb hk e,sMz] at q
  exact .inr ⟨e,(Option.some.inj q).symm⟩
theorem yRz (ar:∀a∈A,cSz h A a):uXz (argH K h A):=fun b=>by
 cases q:argH K h A b with
 | none=>exact .inl rfl
 | some u =>
  obtain⟨_,vs,_,_,⟨_,e⟩ | ⟨_,e⟩⟩:=kNz ar q
  ·exact .inr ⟨_,_,by rw [e]⟩
  ·exact .inr ⟨_,_,by rw [e]⟩
theorem DBz (ar:∀a∈A,cSz h A a):HOk P w (argH K h A) h:=fun b u q=>by
 obtain⟨_,vs,h1,h2,⟨e,rfl⟩ | ⟨e,rfl⟩⟩:=kNz ar q
 ·exact⟨e,by rw [List.length_map];exact h1,vs,_,tH h2,e⟩
 ·exact⟨e,by rw [List.length_map];exact h1,vs,tH h2,_,e,rfl,_,rfl⟩
theorem jLz {c c':Value} {vs us:List Value} (e:(some {cls:=c,data := .seq vs.toArray}:Option Obj)=some {cls:=c',data := .seq us.toArray}):c=c'∧vs=us:=by
 have e1:=Option.some.inj e;have e2:c=c':=congrArg Obj.cls e1;have e3:Data.seq vs.toArray=Data.seq us.toArray:=congrArg Obj.data e1;injection e3 with e4
 refine⟨e2,?_⟩;have e5:=congrArg Array.toList e4
 simpa using e5
theorem argL (KX:K.In h) (ar:∀a∈A,cSz h A a) {a:Addr} {vs:List Value} (ha:a∈A) (e:h.get? a=some {cls := .type "list",data := .seq vs.toArray}):(∀u∈vs,OkU A u)∧SqL K (argH K h A) a (vs.map toV):=by
 obtain⟨us,h1,h2,h3⟩:=ar a ha;have hu:us=vs:=by
  rcases h3 with q | q
  ·rw [e] at q
   exact (jLz q).2.symm
  ·rw [e] at q
   exact absurd (Value.type.inj (jLz q).1) (by decide)
 subst hu;refine⟨h2,?_⟩;cases hk:K.lookup a with
 | none=>exact .inl (.inr ⟨_,by rw [kOz ha hk e,sNz]⟩)
 | some o =>
  have e2:=KX a o hk;rw [e] at e2;obtain rfl:=Option.some.inj e2;exact .inr ⟨_,us.toArray,_,hk,rfl,rfl,rfl,by rw [List.size_toArray];exact h1,by simpa using tH h2⟩
theorem argT (KX:K.In h) (ar:∀a∈A,cSz h A a) {a:Addr} {vs:List Value} (ha:a∈A) (e:h.get? a=some {cls := .type "tuple",data := .seq vs.toArray}):(∀u∈vs,OkU A u)∧SqT K (argH K h A) a (vs.map toV):=by
 obtain⟨us,h1,h2,h3⟩:=ar a ha;have hu:us=vs:=by
  rcases h3 with q | q
  ·rw [e] at q
   exact absurd (Value.type.inj (jLz q).1) (by decide)
  ·rw [e] at q
   exact (jLz q).2.symm
 subst hu;refine⟨h2,?_⟩;cases hk:K.lookup a with
 | none=>exact .inl (.inr ⟨_,by rw [kOz ha hk e,sMz]⟩)
 | some o =>
  have e2:=KX a o hk;rw [e] at e2;obtain rfl:=Option.some.inj e2;exact .inr ⟨_,us.toArray,_,hk,rfl,rfl,by rw [List.size_toArray];exact h1,by simpa using tH h2⟩
mutual
theorem dw_one {Pm:Params} (KX:K.In h) (ar:∀a∈A,cSz h A a):∀(d:WData) (v:Value),Well Pm h v d→plW d=true→OkU A v→Dw K (argH K h A) (toV v) d
 | .none,_,x,_,_=>by
  cases x;exact .non
 | .bool b,_,x,_,_=>by
  cases x;exact .bl b
 | .int i,_,x,_,_=>by
  cases x;exact .int i
 | .str s,_,x,_,_=>by
  cases x;exact .str s
 | .bytes b,_,x,_,_=>by
  cases x;have z:=Dw.byt (K:=K) (H:=argH K h A) b.toArray;exact z
 | .list ds,_,x,p,hu=>by
  obtain⟨a,vs,rfl,ho,hall⟩:=kXz x;obtain⟨h2,hs⟩:=argL KX ar hu ho;exact .lst hs (sVz KX ar ds _ hall p h2)
 | .tuple ds,_,x,p,hu=>by
  obtain⟨a,vs,rfl,ho,hall⟩:=hNz x;obtain⟨h2,hs⟩:=argT KX ar hu ho;exact .tup hs (sVz KX ar ds _ hall p h2)
 | .float _,_,_,p,_=>Bool.noConfusion (show false=true from p)
 | .dict _,_,_,p,_=>Bool.noConfusion (show false=true from p)
 | .bytearray _,_,_,p,_=>Bool.noConfusion (show false=true from p)
 | .set _,_,_,p,_=>Bool.noConfusion (show false=true from p)
 | .frozenset _,_,_,p,_=>Bool.noConfusion (show false=true from p)
 | .obj _ _,_,_,p,_=>Bool.noConfusion (show false=true from p)
theorem sVz {Pm:Params} (KX:K.In h) (ar:∀a∈A,cSz h A a):∀(ds:List WData) (vs:List Value),WellAll Pm h vs ds→plWs ds=true→(∀u∈vs,OkU A u)→cRz K (argH K h A) (vs.map toV) ds
 | [],_,x,_,_=>by
  cases x;exact .nil
 | d::ds,_,x,p,hu=>by
  obtain⟨v,vs,rfl,x1,x2⟩:=kYz x;have q:plW d=true∧plWs ds=true:=Bool.and_eq_true_iff.mp p;exact .cons (dw_one KX ar d v x1 q.1 (hu _ (List.mem_cons_self ..))) (sVz KX ar ds vs x2 q.2 fun u m=>hu u (List.mem_cons_of_mem _ m))
end
end
theorem vRz {P:Program} {w:World} {K:W.Frag} {mg mb:Str→Option Value} {CX:CXT} {k:Nat} {fa:Addr} {fd:FuncData} {ps:List Str} {sp:Sp} {s₁ : Shared} {vals:List Value} {ds:List WData} {R:PySem.W.WRecords} {cl:Str→Option Addr} {d0:WData}
  (KX:K.In s₁.heap) (hns:s₁.heap.Ns mainGlobals mg) (hb:s₁.heap.Ns builtinsNs mb) (hbb:∀x:Str,x≠"__name__"→mb x=bootBuiltins x) (hlim:s₁.heap.NoLimit) (hg:s₁.gens = #[])
  (hwl:WellAll w.params s₁.heap vals ds) (hpl:plWs ds=true) (hwt:∀d∈ds,d.weight≤1048576) (hr:Room k callerA)
  (F:∀base:Heap,K.In base→base.Ns mainGlobals mg→FnOk P w K mg base CX k fa fd ps sp) (hbind:∀(s:Shared) (us:List Value),us.length=ps.length→BindsTo s fd ⟨us,[]⟩ (ps.zip us)) (hlen:ds.length=ps.length)
  (hsp:∀(H:Hp) (xs:List V),uXz H→cRz K H xs ds→sp xs H (fun v H'=>Dw K H' v d0) fun _ _ _=>False)
  (hCX:∀H e s',CX [] H s₁ (fun _ _ _=>False) e s'→False) :
  codeAny (model P w) callerA (.call (.ref fa) ⟨vals,[]⟩) (fun r s'=>∃u as,r = .ok (.ret u)∧ReadsW R cl s'.heap u d0 as∧OldK s₁.heap s'.heap∧s'.os=s₁.os∧AllBare s'.gens) s₁ := by
 obtain⟨A,ho,ar⟩:=cYz ds vals hwl hpl hwt;have hO:uXz (argH K s₁.heap A):=yRz ar;have hok:HOk P w (argH K s₁.heap A) s₁.heap:=DBz ar;have hS:=sVz KX ar ds vals hwl hpl ho;have hV:=tH ho;have hK:∀b u,argH K s₁.heap A b=some u→K.lookup b=none:=fun b u q=>(kNz ar q).1;have noA:∀{b:Addr} {o:Obj} {es:Array DictEntry} {ep:Nat},s₁.heap.get? b=some o→o.data = .dict es ep→argH K s₁.heap A b=none:=fun {b o es ep} e d=>by
  cases q:argH K s₁.heap A b with
  | none=>rfl
  | some u =>
   obtain⟨_,vs,_,_,⟨e2,_⟩ | ⟨e2,_⟩⟩:=kNz ar q
   ·rw [e2] at e
    cases e;have d':Data.seq vs.toArray _=Data.dict es ep:=d;cases d'
   ·rw [e2] at e
    cases e;have d':Data.seq vs.toArray _=Data.dict es ep:=d;cases d'
 generalize argH K s₁.heap A=H at hO hok hS hK noA;have base_of:∀{b:Addr} {o:Obj},s₁.heap.get? b=some o→H b=none→(hidT s₁.heap H).get? b=some o:=fun e n=>zSz e n;have nsK:∀{b:Addr} {m:Str→Option Value},s₁.heap.Ns b m→(hidT s₁.heap H).Ns b m:=fun {b m} ⟨o,es,ep,e,d,r⟩=>⟨o,es,ep,base_of e (noA e d),d,r⟩;have nK:∀b o,K.lookup b=some o→H b=none:=fun b o e=>by
  cases q:H b with
  | none=>rfl
  | some u =>
   rw [hK b u q] at e;cases e
 have hKb:K.In (hidT s₁.heap H):=fun b o e=>base_of (KX b o e) (nK b o e);have hM:Mod K mg (hidT s₁.heap H):=⟨hKb,nsK hns,⟨mb,nsK hb,hbb⟩,let ⟨mc,h1,h2⟩:=hlim;⟨mc,nsK h1,h2⟩⟩;have e0:Env0 P w K mg (hidT s₁.heap H) callerA [] s₁ H:=⟨rfl,hM,fun b o e=>B3z e,Nat.le_of_eq (xPz _ _),trivial,fun b hb=>absurd (show b∈([]:List Addr) from hb) (by simp),hok,.of_eq hg⟩;have hl:vals.length=ps.length:=by rw [pG hwl];exact hlen
 refine codeAny_mono ((F _ hKb (nsK hns)).run callerA [] s₁ H ⟨vals,[]⟩ vals (vals.map toV) _ _ hr e0 (hbind s₁ vals hl) hV (hsp H _ hO hS)) fun r s' x=>?_;cases r with
 | error e=>exact (hCX H e s' x).elim
 | ok fl =>
  cases fl with
  | next=>exact False.elim x
  | brk=>exact False.elim x
  | cont=>exact False.elim x
  | ret u =>
   obtain⟨v,H',os,bare,un,hok',r',q⟩:=x;have kept:∀b o,s₁.heap.get? b=some o→s'.heap.get? b=some o:=fun b o e=>by
    cases q2:H b with
    | none=>exact un.keep b o e q2 (by intro z;exact absurd (show b∈([]:List Addr) from z) (by simp)) (by simp)
    | some u2 =>
     rcases hO b with z | ⟨ob,u3,z⟩
     ·rw [q2] at z
      cases z
     ·have z2:=un.frzs b ob _ z
      obtain⟨e1,_⟩:=hok b _ z;obtain⟨e2,_⟩:=hok' b _ z2;rw [e] at e1;cases e1;exact e2
   have KX':K.In s'.heap:=fun b o e=>kept b o (KX b o e);obtain⟨as,hrd⟩:=Dw.reads (R:=R) (cl:=cl) hok' KX' d0 v u q r';exact⟨u,as,rfl,hrd,OldK.of_keep kept,os,bare⟩
theorem gWz {ds:List WData} (h:WData.layableAll ds=true):∀d∈ds,d.weight≤1048576:=fun d hd =>
 (W.layableW_iff.mp (List.all_eq_true.mp h d hd)).2.2
theorem iPz:∀(cs:List Codec) (a:Codec.denoteAll cs),(Codec.encAll cs a).length=cs.length
 | [],_=>rfl
 | c::cs,a=>by
  show (Codec.encAll cs a.2).length+1=cs.length+1;rw [iPz cs a.2]
theorem u9z {r:OpenSpec} {k:Nat} {q:Program} {loose:List Str} {XP:(Str→Option Value)→Heap→Prop} {YP:World→Heap→Prop} {d:DefRec} {K:Params→W.Frag} {CX:World→CXT} {ps:List Str} {sp:World→Sp}
  (hwell:r.wellSaid=true) (hdf:d.params.defaults=[]) (hlen:r.args.length=ps.length) (hr:Room k callerA)
  (hY:∀(w:World) (h:Heap),YP w h→(K w.params).In h)
  (F:∀(w:World) (mg:Str→Option Value) (fa:Addr) (h:Heap),YP w h→(K w.params).In h→h.Ns mainGlobals mg→mg d.name=some (.ref fa)→
   ∃fd:FuncData,(∀(s:Shared) (us:List Value),us.length=ps.length→BindsTo s fd ⟨us,[]⟩ (ps.zip us))∧
    ∀base:Heap,(K w.params).In base→base.Ns mainGlobals mg→FnOk r.prog w (K w.params) mg base (CX w) k fa fd ps (sp w))
  (hsp:∀(w:World) (H:Hp) (xs:List V) (a:Codec.denoteAll r.args),uXz H→Codec.withinAll r.args a=true→Codec.app r.args r.asked a=true→cRz (K w.params) H xs (Codec.encAll r.args a)→
   sp w xs H (fun v H'=>Dw (K w.params) H' v (r.ret.enc (Codec.app r.args r.f a))) fun _ _ _=>False)
  (hCX:∀(w:World) (H:Hp) (s:Shared) (e:Value) (s':Shared),CX w [] H s (fun _ _ _=>False) e s'→False) :
  PySem.W.WalkOS q loose XP YP r d [] (fun f vs=>PySem.call f vs):=by
 intro w s_0 s₁ mg mb G Y fa o pm cd doc dV kV ho hd hcd hD hmg hg args vals as hpre hlay hrd hwl hlo;obtain⟨a,e1,e2⟩:=W.os_pre_some hpre;obtain⟨e3,hwi⟩:=Codec.encAll_of_decAll r.args args a e1;subst e3;have KX:=hY w _ Y;obtain⟨fd,hb,hF⟩:=F w mg fa _ Y KX G.T.g hmg
 refine W.enter_call (codeAny_mono (vRz (R:=[]) (cl:=classAt s_0.heap) (d0:=r.ret.enc (Codec.app r.args r.f a)) KX G.T.g G.T.b G.T.builtins G.T.nolimit hg hwl (mNz _ _) (gWz hlay) hr hF hb (by rw [iPz];exact hlen)
  (fun H xs hO hS=>hsp w H xs a hO hwi e2 hS) fun H e s'=>hCX w H s₁ e s') fun r' s' hq=>?_)
 obtain⟨u,as',rfl,h1,h2,h3,h4⟩:=hq;exact⟨.inl ⟨u,_,as',rfl,fun _=>rfl,h1,(OpenSpec.post_iff hwell hwi _ _).mpr rfl,fun z=>Bool.noConfusion (show false=true from z)⟩,h2,h3,h4⟩
end L2
end


namespace L2x
open PySem
structure kWz (fs:List Addr) (h h':Heap) (e:Addr) (oe:Obj) (vs:Array Value) (head:Value) (T:Addr):Prop where
 new:h.get? T=none
 big:h.objs.size≤T
 obj:h'.get? e=some {oe with data := .fields (vs.setIfInBounds 1 (.ref T))}
 tb:∃oT ts,h'.get? T=some oT∧oT.data = .fields ts∧ts[3]?=some Value.none
 keep:∀b o,h.get? b=some o→b≠e→head≠.ref b→b∉fs→h'.get? b=some o
 slot:∀b o,h.get? b=some o→b≠e→head≠.ref b→∃sl,h'.get? b=some {o with slots:=sl}
 there:∀b o,h.get? b=some o→∃o',h'.get? b=some o'
section
variable {M:Model} {A:Around} {E:Value→Shared→Prop}
theorem zKz {o:Obj} {vs:Array Value} (hd:o.data = .fields vs) (g:Array Value→Array Value):Obj.mapFields g o={o with data := .fields (g vs)}:=by
 obtain⟨c,d,dt,sl⟩:=o;obtain rfl:dt = .fields vs:=hd;rfl
theorem rCz {h:Heap} {a:Addr} {o:Obj} {vs:Array Value} (ho:h.get? a=some o) (hd:o.data = .fields vs) (g:Array Value→Array Value) :
  (h.update a (Obj.mapFields g)).get? a=some {o with data := .fields (g vs)}:=by
 have:=Heap.get?_update_self (Obj.mapFields g) ho (Obj.isFreed_of_fields (Obj.data_mapFields hd g))
 rw [this,zKz hd]
theorem iOz {s:Shared} {base:Heap} {env:Env} {outer:List Env} {L e:Addr} {oe:Obj} {vs:Array Value} {head:Value} {hadNext:Bool} {Q:Unit→Shared→Prop}
  (hfr:A.frames=some (env::outer)) (hl:s.heap.FunFrames base (env::outer)) (hf:env.frame=some L) (he:s.heap.get? e=some oe) (hd:oe.data = .fields vs) (hz:1<vs.size)
  (hQ:∀h' T,s.heap.get? T=none→h'.get? e=some {oe with data := .fields (vs.setIfInBounds 1 (.ref T))}→(∃oT ts,h'.get? T=some oT∧oT.data = .fields ts∧3<ts.size)→
   (∀b o,s.heap.get? b=some o→b≠e→b∉(env::outer).filterMap (·.frame)→h'.get? b=some o)→(∀b o,s.heap.get? b=some o→b≠e→∃sl,h'.get? b=some {o with slots:=sl})→T≠e→s.heap.objs.size≤T→
   Q () {s with heap:=h'}) :
  wpAny M A (do let a ← frameOf env;let pl ← entryPlaceOf L hadNext;let b ← EntryCells.newEntry head a .none (rawInt L) .none pl;setField (.ref e) 1 b) Q E s:=by
 have nef:e∉(env::outer).filterMap (·.frame):=fun hm=>by
  obtain⟨_,o,ho,hnf⟩:=hl.mem hm;rw [he] at ho;cases ho;exact hnf vs hd
 refine wpAny_bind (wpAny_frameOf_fun hfr hl hf fun h1 hs=>wpAny_bind (wpAny_entryPlaceOf fun pl hpl=>?_));unfold EntryCells.newEntry newFields;refine wpAny_bind (wpAny_newObj_type ?_ (hpl.sizeOk5 _ _ _ _ _));have e1:h1.get? e=some oe:=(hs.2.1 e nef).trans he;have hT:h1.objs.size≠e:=Nat.ne_of_gt (Heap.lt_size e1);refine wpAny_setField (Heap.get?_push_of_some _ e1) hd hz (hQ _ h1.objs.size ?_ ?_ ?_ ?_ ?_ hT (Nat.le_of_eq hs.1.symm))
 ·cases q:s.heap.get? h1.objs.size with
  | none=>rfl
  | some o =>
   obtain⟨sl,z⟩:=hs.2.2 _ o q;exact absurd (Heap.lt_size z) (Nat.lt_irrefl _)
 ·exact rCz (Heap.get?_push_of_some _ e1) hd _
 ·refine⟨_,_,(Heap.get?_update_other _ _ (Ne.symm hT)).trans (Heap.get?_push_size h1 rfl),rfl,?_⟩
  simp only [List.size_toArray,List.length_append,List.length_cons,List.length_nil];omega
 ·intro b o hb hbe hbf
  rw [Heap.get?_update_other _ _ (Ne.symm hbe)];exact Heap.get?_push_of_some _ ((hs.2.1 b hbf).trans hb)
 ·intro b o hb hbe
  obtain⟨sl,z⟩:=hs.2.2 b o hb;refine⟨sl,?_⟩;rw [Heap.get?_update_other _ _ (Ne.symm hbe)];exact Heap.get?_push_of_some _ z
theorem sEz {s:Shared} {base:Heap} {env:Env} {outer:List Env} {L e:Addr} {oe:Obj} {vs:Array Value} {head:Value} {Q:Unit→Shared→Prop}
  (hfr:A.frames=some (env::outer)) (hl:s.heap.FunFrames base (env::outer)) (hf:env.frame=some L) (he:s.heap.get? e=some oe) (hd:oe.data = .fields vs) (h1:vs[1]?=some head)
  (hh:head = .none∨∃T oT ts,head = .ref T∧T≠e∧s.heap.get? T=some oT∧oT.data = .fields ts∧ts[3]?=some Value.none)
  (hQ:∀h' T,kWz ((env::outer).filterMap (·.frame)) s.heap h' e oe vs head T→Q () {s with heap:=h'}):wpAny M A (noteFrame (.ref e) env) (fun _ s2=>wpAny M A (setFlight (.ref e) none) Q E s2) E s:=by
 have hz:1<vs.size:=(Array.getElem?_eq_some_iff.mp h1).1;have tail:∀(h2:Heap) (T:Addr),h2.get? e=some {oe with data := .fields (vs.setIfInBounds 1 (.ref T))}→(∃oT ts,h2.get? T=some oT∧oT.data = .fields ts∧3<ts.size)→T≠e→s.heap.get? T=none→s.heap.objs.size≤T→
   (∀b o,s.heap.get? b=some o→b≠e→head≠.ref b→b∉(env::outer).filterMap (·.frame)→h2.get? b=some o)→(∀b o,s.heap.get? b=some o→b≠e→head≠.ref b→∃sl,h2.get? b=some {o with slots:=sl})→
   (∀b o,s.heap.get? b=some o→∃o',h2.get? b=some o')→wpAny M A (setFlight (.ref e) none) Q E {s with heap:=h2}:=by
  intro h2 T x1 x2 x3 x4 x8 x5 x6 x7;obtain⟨oT,ts,t1,t2,t3⟩:=x2;unfold setFlight;refine wpAny_bind (wpAny_field (s:={s with heap:=h2}) x1 rfl (x := .ref T) (by simp [hz]) ?_);rw [if_pos (show (Value.ref T != Value.none)=true from by simp)];refine wpAny_setField (s:={s with heap:=h2}) t1 t2 t3 (hQ _ T ⟨x4,x8,?_,?_,?_,?_,?_⟩)
  ·rw [Heap.get?_update_other _ _ x3];exact x1
  ·refine⟨_,_,rCz t1 t2 _,rfl,?_⟩
   simp [t3]
  ·intro b o hb hbe hbh hbf
   rw [Heap.get?_update_other _ _ (fun z:T=b=>by rw [z,hb] at x4;cases x4)];exact x5 b o hb hbe hbh hbf
  ·intro b o hb hbe hbh
   obtain⟨sl,z⟩:=x6 b o hb hbe hbh;exact⟨sl,by rw [Heap.get?_update_other _ _ (fun z:T=b=>by rw [z,hb] at x4;cases x4)];exact z⟩
  ·intro b o hb
   obtain⟨o',z⟩:=x7 b o hb;exact⟨o',by rw [Heap.get?_update_other _ _ (fun z:T=b=>by rw [z,hb] at x4;cases x4)];exact z⟩
 unfold noteFrame;simp only [hf];refine wpAny_bind (wpAny_field he hd h1 ?_);rcases hh with rfl | ⟨T0,oT0,ts0,rfl,hTe,hT0,hTd,h3⟩
 ·rw [if_neg (by decide)]
  refine iOz hfr hl hf he hd hz fun h' T y1 y2 y3 y4 y5 y6 y7=>?_;refine tail h' T y2 y3 y6 y1 y7 (fun b o hb hbe _ hbf=>y4 b o hb hbe hbf) (fun b o hb hbe _=>y5 b o hb hbe) fun b o hb=>?_
  by_cases hbe:b=e
  ·subst hbe;exact⟨_,y2⟩
  ·obtain⟨sl,z⟩:=y5 b o hb hbe;exact⟨_,z⟩
 ·rw [if_pos (show (Value.ref T0 != Value.none)=true from by simp)]
  refine wpAny_bind (wpAny_field hT0 hTd h3 ?_);rw [if_neg (show ¬ ((Value.none == rawInt L)=true) from by simp [rawInt])];refine wpAny_bind (wpAny_setField hT0 hTd (Array.getElem?_eq_some_iff.mp h3).1 ?_);have oth:∀b,b≠T0→(s.heap.update T0 (Obj.mapFields (·.setIfInBounds 3 Value.none))).get? b=s.heap.get? b:=fun b hb=>Heap.get?_update_other _ _ (Ne.symm hb);have hT1:=rCz hT0 hTd (·.setIfInBounds 3 Value.none);have nT:∀b o,s.heap.get? b=some o→(∀vs,o.data≠.fields vs)→b≠T0:=fun b o hb hn z=>by
   rw [z,hT0] at hb;cases hb;exact hn ts0 hTd
  refine iOz (s:={s with heap:=s.heap.update T0 (Obj.mapFields (·.setIfInBounds 3 Value.none))}) hfr (hl.of_keeps fun b o hb hn=>⟨o,(oth b (nT b o hb hn)).trans hb,rfl⟩) hf ((oth e (Ne.symm hTe)).trans he) hd hz fun h' T y1 y2 y3 y4 y5 y6 y7=>?_;have nn:∀b,(Value.ref T0:Value)≠.ref b→b≠T0:=fun b z q=>z (by rw [q]);have fresh:s.heap.get? T=none:=by
   cases q:s.heap.get? T with
   | none=>rfl
   | some o =>
    by_cases z:T=T0
    ·subst z;rw [hT1] at y1;cases y1
    ·rw [oth T z,q] at y1;cases y1
  refine tail h' T y2 y3 y6 fresh (by rw [Heap.size_after_update] at y7;exact y7) (fun b o hb hbe hbh hbf=>y4 b o ((oth b (nn b hbh)).trans hb) hbe hbf) (fun b o hb hbe hbh=>y5 b o ((oth b (nn b hbh)).trans hb) hbe) fun b o hb=>?_
  by_cases hbe:b=e
  ·subst hbe;exact⟨_,y2⟩
  ·by_cases z:b=T0
   ·subst z
    obtain⟨sl,z⟩:=y5 b _ hT1 hbe;exact⟨_,z⟩
   ·obtain⟨sl,z⟩:=y5 b o ((oth b z).trans hb) hbe
    exact⟨_,z⟩
theorem nGz {s:Shared} {base:Heap} {env:Env} {outer:List Env} {L e:Addr} {oe:Obj} {vs:Array Value} {head:Value} {Q:Unit→Shared→Prop}
  (hfr:A.frames=some (env::outer)) (hl:s.heap.FunFrames base (env::outer)) (hf:env.frame=some L) (he:s.heap.get? e=some oe) (hd:oe.data = .fields vs) (h1:vs[1]?=some head)
  (hh:head = .none∨∃T oT ts,head = .ref T∧T≠e∧s.heap.get? T=some oT∧oT.data = .fields ts∧ts[3]?=some Value.none)
  (hQ:∀h' T,kWz ((env::outer).filterMap (·.frame)) s.heap h' e oe vs head T→Q () {s with heap:=h'}):wpAny M A (leaving env (.ref e)) Q E s:=by
 unfold leaving;exact wpAny_bind (sEz hfr hl hf he hd h1 hh hQ)
end
end L2x


namespace L2x
open PySem
abbrev exMro:List Value:=[.type "Exception",.type "BaseException",.type "object"]
theorem lk_ga:typeLookup (.type "Exception") "__getattribute__" = pure (some (.builtin "BaseException.__getattribute__")):=PySem.F.attr_Exception.ga.lookup
theorem CAz:typeLookup (.type "Exception") "__getattr__" = pure none:=PySem.F.attrBase_Exception.noGetattr
theorem sUz:mroOf (.type "Exception")=pure exMro:=PySem.F.excBase_Exception.mroIs
section
variable {prog:Program} {w:World} {A:Around} {E:Value→Shared→Prop} {h:Heap} {g:Array GenState} {d:Drawn} {t:Nat} {os:OsState} {e:Addr} {oe:Obj}
 {nm q:Str} {C N:Addr} {bs:List Value} {sn:List Str} {sub:List Value} {ab:Bool} {col:Option Bool} {dd:Option Addr} {k0 k1 k2 k3 k5:Option Value} {newId:String} {mN mA:Str→Option Value} {name:Str} {v:Value}
theorem xZz {tk:Tok} {Q:Fin→Shared→Prop} (hC:h.get? C=some (excClassObj nm q C N bs exMro true sn sub ab col dd k0 k1 k2 k3 k5 newId)) (hN:h.Ns N mN) (hn:mN name=none)
  (hl:typeLookup (.type "Exception") name=pure none) (I:h.Inst e C mA) (hv:mA name=some v) (hq:Q (.done (.ret v)) ⟨h,g,d,t,os⟩) :
  wpAny (model prog w) A (Builtin.«object.__getattribute__» ⟨[.ref e,.str name tk],[]⟩) Q E ⟨h,g,d,t,os⟩:=by
 obtain⟨o,hx,hc,hnc,hd⟩:=I;rcases hd with ⟨_,hmA⟩ | ⟨dx,hdx,hne,hns⟩
 ·rw [hmA name] at hv;cases hv
 unfold Builtin.«object.__getattribute__»
 repeat (any_goals (first | assumption | (with_reducible refine wpAny_loadPart_at hx ?_;rw [hc]) | (with_reducible refine wpAny_typeLookup_exc hC hN sUz hl ?_;rw [hn]) | wp_step))
 split
 ·rename_i c hcd
  exact absurd hcd (hnc c)
 ·unfold instanceDict
  repeat (first | (with_reducible refine wpAny_loadPart_at hx ?_;rw [hc]) | with_reducible refine wpAny_loadPart_at hC ?_ | wp_step)
  rw [hdx]
  repeat (first | (with_reducible refine wpAny_nsGet hns.ns ?_;rw [hv]) | wp_step)
  exact hq
theorem yAz {M:Model} {nameV:Value} {Q:Unit→Shared→Prop} (hC:h.get? C=some (excClassObj nm q C N bs exMro true sn sub ab col dd k0 k1 k2 k3 k5 newId)) (hx:h.get? e=some oe) (hc:oe.cls = .ref C) (hq:Q () ⟨h,g,d,t,os⟩) :
  wpAny M A (checkBuiltinCall "BaseException.__getattribute__" ⟨[.ref e,nameV],[]⟩) Q E ⟨h,g,d,t,os⟩ :=
 wpAny_check_ga_own PySem.F.attrBase_Exception hC .base hx hc hq
theorem CUz {expr:Bool} {Q:Value→Shared→Prop} (hC:h.get? C=some (excClassObj nm q C N bs exMro true sn sub ab col dd k0 k1 k2 k3 k5 newId)) (hN:h.Ns N mN) (hg:mN "__getattribute__" = none) (hk:mN "__getattr__" = none) (hn:mN name=none)
  (hl:typeLookup (.type "Exception") name=pure none) (I:h.Inst e C mA) (hv:mA name=some v) (hh:handedOut v=pure v) (hq:Q v ⟨h,g,d,t+1,os⟩) :
  wpAny (model prog w) A (getAttr (.ref e) name expr) Q E ⟨h,g,d,t,os⟩:=by
 obtain⟨o,hx,hc,_⟩:=id I;have f3:=PySem.F.attr_Exception.ga.bind (.ref e);have hx0:(expr&&onTheHeap (Value.builtin "BaseException.__getattribute__"))=false:=by cases expr <;> rfl
 have hx2:(Value.builtin "BaseException.__getattribute__" == Value.builtin "object.__getattribute__")=false:=by decide +kernel
 have hx1:(onTheHeap (Value.ref C)&&Value.builtin "BaseException.__getattribute__" == Value.builtin "object.__getattribute__")=false:=by rw [hx2];rfl
 unfold getAttr getAttrBy
 repeat (any_goals (first | assumption | (with_reducible refine wpAny_loadPart_at hx ?_;rw [hc]) | (with_reducible refine wpAny_typeLookup_exc hC hN sUz lk_ga ?_;rw [hg]) | (with_reducible refine wpAny_typeLookup_exc hC hN sUz CAz ?_;rw [hk]) | wp_step))
 refine codeAny_call_builtin PySem.F.attr_Exception.ga.plain PySem.F.entry_bexc_ga (yAz hC hx hc (xZz hC hN hn hl I hv ?_));show wpAny _ _ (handedOut v) _ _ _;rw [hh];exact wpAny_pure hq
theorem CTz {Q:Unit→Shared→Prop} {ns:List Str} (hC:h.get? C=some (excClassObj nm q C N bs exMro true sn sub ab col dd k0 k1 k2 k3 k5 newId)) (hN:h.Ns N mN) (hs:mN "__setattr__" = none) (hn:mN name=none)
  (hl:typeLookup (.type "Exception") name=pure none) (hxC:e≠C) (I:h.Inst e C mA)
  (hq:∀h' tk',h'.Inst e C (fun y=>if y=name then some v else mA y)→
   (∀b o,b≠e→(∀o0 dx,h.get? e=some o0→o0.dict=some dx→b≠dx)→h.get? b=some o→h'.get? b=some o)→
   (∀o0,h.get? e=some o0→∃o1,h'.get? e=some o1∧o1.cls=o0.cls∧o1.data=o0.data∧o1.slots=o0.slots∧∀dx,o0.dict=some dx→o1.dict=some dx)→Q () ⟨h',g,d,tk',os⟩) (hw:Within mA ns) (hz:ns.length≤sizeLine) :
  wpAny (model prog w) A (setAttr (.ref e) name v) Q E ⟨h,g,d,t,os⟩:=store_attr PySem.F.store_Exception hC hN hs hn hl hxC I hq hw hz
end
end L2x


namespace L2x
open PySem
section
variable {M:Model} {A:Around} {E:Value→Shared→Prop} {env:Env} {s:Shared}
 {nm q:Str} {C N:Addr} {bs:List Value} {hdct:Bool} {sn:List Str} {sub:List Value} {ab:Bool} {col:Option Bool} {dd:Option Addr} {k0 k1 k2 k3 k5:Option Value} {newId:String}
theorem sSz {h:Heap} {g:Array GenState} {d:Drawn} {t:Nat} {os:OsState} {e C2 N2:Addr} {oe:Obj} {nm2 q2:Str} {bs2:List Value} {hd2:Bool} {sn2:List Str} {sub2:List Value} {ab2:Bool} {col2:Option Bool} {dd2:Option Addr} {j0 j1 j2 j3 j5:Option Value} {new2:String}
  {Q:Bool→Shared→Prop} (hC:h.get? C=some (excClassObj nm q C N bs exMro hdct sn sub ab col dd k0 k1 k2 k3 k5 newId)) (hC2:h.get? C2=some (excClassObj nm2 q2 C2 N2 bs2 exMro hd2 sn2 sub2 ab2 col2 dd2 j0 j1 j2 j3 j5 new2))
  (he:h.get? e=some oe) (hc:oe.cls = .ref C) (hne:C≠C2) (hq:Q false ⟨h,g,d,t,os⟩):wpAny M A (excMatches (.ref e) (.ref C2)) Q E ⟨h,g,d,t,os⟩:=by
 have hcB:(Value.ref C2::exMro).contains (.type "BaseException")=true:=by rw [List.contains_cons,show exMro.contains (Value.type "BaseException")=true from by decide +kernel,Bool.or_true]
 have hcC:(Value.ref C::exMro).contains (.ref C2)=false:=by
  rw [List.contains_cons,show exMro.contains (Value.ref C2)=false from rfl,Bool.or_false,beq_eq_false_iff_ne];intro z;exact hne (Value.ref.inj z).symm
 have f:=tc_notTuple;unfold excMatches
 repeat (first | (with_reducible refine wpAny_loadPart_at he ?_;rw [hc]) | with_reducible refine wpAny_loadPart_at hC2 ?_ | (with_reducible refine wpAny_isSubtype_exc hC2 ?_;rw [hcB]) | (with_reducible refine wpAny_isSubtype_exc hC ?_;rw [hcC]) | wp_step)
 exact hq
theorem xYz {h:Heap} {g:Array GenState} {d:Drawn} {t:Nat} {os:OsState} {e:Addr} {oe:Obj} {Q:Bool→Shared→Prop} (hC:h.get? C=some (excClassObj nm q C N bs exMro hdct sn sub ab col dd k0 k1 k2 k3 k5 newId))
  (he:h.get? e=some oe) (hc:oe.cls = .ref C) (hq:Q true ⟨h,g,d,t,os⟩):wpAny M A (excMatches (.ref e) (.ref C)) Q E ⟨h,g,d,t,os⟩ :=
 wpAny_excMatches_sub_self hC he hc (by decide +kernel) hq
end
end L2x


namespace L2x
open PySem PySem.Builtin PySem.Builtin.ObjectAttr
section
variable {prog:Program} {w:World} {A:Around} {E:Value→Shared→Prop} {h:Heap} {g:Array GenState} {d:Drawn} {t:Nat} {os:OsState} {e:Addr} {oe:Obj}
 {nm q:Str} {C N:Addr} {bs:List Value} {sn:List Str} {sub:List Value} {ab:Bool} {col:Option Bool} {dd:Option Addr} {k0 k1 k2 k3 k5:Option Value} {newId:String} {mN:Str→Option Value} {name:Str} {v:Value}
structure kUz (h h':Heap) (e:Addr) (oe:Obj) (name:Str) (v:Value):Prop where
 obj:h'.get? e=some {oe with dict:=some h.objs.size}
 ns:h'.Ns1 h.objs.size (fun y=>if y=name then some v else none)
 keep:∀b o,b≠e→h.get? b=some o→h'.get? b=some o
theorem wAz {tk:Tok} {Q:PySem.Fin→Shared→Prop} (hC:h.get? C=some (excClassObj nm q C N bs exMro true sn sub ab col dd k0 k1 k2 k3 k5 newId)) (hN:h.Ns N mN) (hn:mN name=none)
  (hl:typeLookup (.type "Exception") name=pure none) (hx:h.get? e=some oe) (hc:oe.cls = .ref C) (hd:oe.dict=none) (hf:∃vs,oe.data = .fields vs)
  (hq:∀h' tk',kUz h h' e oe name v→Q (.done (.ret .none)) ⟨h',g,d,tk',os⟩) :
  wpAny (model prog w) A (Builtin.«object.__setattr__» ⟨[.ref e,.str name tk,v],[]⟩) Q E ⟨h,g,d,t,os⟩:=by
 have SF:=PySem.F.store_Exception;have pas:=SF.passes (.ref e);obtain⟨vs,hv⟩:=hf;unfold Builtin.«object.__setattr__»
 repeat (first | rw [refuse_eq] | (rw [refuseLoop_ref,pas]) | (with_reducible refine wpAny_loadPart_at hx ?_;rw [hc]) | with_reducible refine wpAny_mroOf_exc hC ?_ | (with_reducible refine wpAny_typeLookup_exc hC hN SF.mro hl ?_;rw [hn]) | wp_step)
 rw [hd,if_neg (by simp [typeHasDict]),hv];have hx1:(h.push {cls := .type "dict",data := .dict #[]}).get? e=some oe:=Heap.get?_push_of_some _ hx;have ne:e≠h.objs.size:=Nat.ne_of_lt (Heap.lt_size hx);have hfr:=(Heap.get?_some_iff.mp hx).2;have self1:((h.push {cls := .type "dict",data := .dict #[]}).update e fun o=>{cls:=o.cls,dict:=some h.objs.size,data:=o.data,slots:=o.slots}).get? e=some {oe with dict:=some h.objs.size}:=by
  refine Heap.get?_update_self _ hx1 ?_;obtain⟨c0,d0,dt,sl⟩:=oe;obtain rfl:dt = .fields vs:=hv;rfl
 have dict1:((h.push {cls := .type "dict",data := .dict #[]}).update e fun o=>{cls:=o.cls,dict:=some h.objs.size,data:=o.data,slots:=o.slots}).get? h.objs.size=some {cls := .type "dict",data := .dict #[]} :=
  (Heap.get?_update_ne _ _ _ _ (Ne.symm ne)).trans (Heap.get?_push_at rfl rfl)
 have ns1:((h.push {cls := .type "dict",data := .dict #[]}).update e fun o=>{cls:=o.cls,dict:=some h.objs.size,data:=o.data,slots:=o.slots}).Ns h.objs.size (fun _=>none) :=
  ⟨_,#[],_,dict1,rfl,fun z hz=>absurd hz (by simp),fun _=>rfl⟩
 refine wpAny_bind (wpAny_alloc' (wpAny_bind (wpAny_update' hx1 (wpAny_pure ?_))));show wpAny _ _ (storeInDict h.objs.size (.str name tk) name v) _ _ _;unfold storeInDict newKeyGuard;refine wpAny_bind (wpAny_pure (wpAny_bind (wpAny_nsSet1 (Heap.Ns1.of_empty ns1) fun h2 n2 s2=>?_)));obtain⟨oD,esD,epD,hoD,hdD,hcD⟩:=n2.count (Within.cons name v Within.nil);refine wpAny_bind (wpAny_lookBehind hoD (by rw [hdD];exact pastItsLine_dict (Nat.le_trans hcD (by show 1≤sizeLine+1;decide))) ?_)
 wp_walk
 refine hq h2 _ ⟨(s2.2 e ne).trans self1,n2,fun b o hb hbo=>?_⟩;rw [s2.2 b (Nat.ne_of_lt (Heap.lt_size hbo)),Heap.get?_update_ne _ _ _ _ hb];exact Heap.get?_push_of_some _ hbo
theorem y8z {tk:Tok} {sa owner:String} {R:Result→Shared→Prop} (SF:StoreFacts "Exception" exMro sa owner) (hC:h.get? C=some (excClassObj nm q C N bs exMro true sn sub ab col dd k0 k1 k2 k3 k5 newId)) (hN:h.Ns N mN) (hn:mN name=none)
  (hl:typeLookup (.type "Exception") name=pure none) (hx:h.get? e=some oe) (hc:oe.cls = .ref C) (hd:oe.dict=none) (hf:∃vs,oe.data = .fields vs)
  (hq:∀h' tk',kUz h h' e oe name v→R (.ok (.ret .none)) ⟨h',g,d,tk',os⟩):codeAny (model prog w) A (.call (.builtin sa) ⟨[.ref e,.str name tk,v],[]⟩) R ⟨h,g,d,t,os⟩ :=
 codeAny_call_builtin SF.slot.plain SF.entry (wpAny_check_sa SF hC hx hc (wAz hC hN hn hl hx hc hd hf fun h' tk' P=>hq h' tk' P))
theorem z1z {Q:Unit→Shared→Prop} (hC:h.get? C=some (excClassObj nm q C N bs exMro true sn sub ab col dd k0 k1 k2 k3 k5 newId)) (hN:h.Ns N mN) (hs:mN "__setattr__" = none) (hn:mN name=none)
  (hl:typeLookup (.type "Exception") name=pure none) (hx:h.get? e=some oe) (hc:oe.cls = .ref C) (hd:oe.dict=none) (hf:∃vs,oe.data = .fields vs)
  (hq:∀h' tk',kUz h h' e oe name v→Q () ⟨h',g,d,tk',os⟩):wpAny (model prog w) A (setAttr (.ref e) name v) Q E ⟨h,g,d,t,os⟩:=by
 have f3:=PySem.F.store_Exception.slot.bind (.ref e);unfold setAttr callSpecial? specialOf
 repeat (any_goals (first | assumption | (with_reducible refine wpAny_loadPart_at hx ?_;rw [hc]) | (with_reducible refine wpAny_typeLookup_exc hC hN sUz PySem.F.store_Exception.slot.lookup ?_;rw [hs]) | wp_step))
 refine y8z PySem.F.store_Exception hC hN hn hl hx hc hd hf fun h' tk' P=>?_
 wp_walk
 exact hq h' tk' P
end
end L2x


namespace L2
open PySem PySem.Spec PyProof.Rows L2x
structure Fly (P:Program) (w:World) (outer:List Env) (H:Hp) (s:Shared) (ea:Addr) (cls:Value) (dx:Option Addr) (H':Hp) (s':Shared):Prop where
 os:s'.os=s.os
 bare:AllBare s'.gens
 un:Un (frs outer) [] H H' s.heap s'.heap
 hok:HOk P w H' s'.heap
 obj:∃oe vs T oT ts,s'.heap.get? ea=some oe∧oe.cls=cls∧oe.dict=dx∧oe.data = .fields vs∧vs[1]?=some (.ref T)∧T≠ea∧s'.heap.get? T=some oT∧oT.data = .fields ts∧ts[3]?=some Value.none∧H' T=none∧s.heap.get? T=none
 efree:H' ea=none
 enew:s.heap.get? ea=none
def CXr (P:Program) (w:World):CXT:=fun outer H s E e s'=>∃ea cls dx H',e = .ref ea∧Fly P w outer H s ea cls dx H' s'∧E cls dx H'
theorem fNz {base:Heap} {h h':Heap} {H H':Hp} {fs:List Addr} (u:Un fs [] H H' h h'):∀(l:List Env),(∀b∈frs l,b∈fs∧H b=none)→h.FunFrames base l→h'.FunFrames base l
 | [],_,_=>trivial
 | env::r,hs,hl=>by
  obtain⟨hk,⟨L,o,hf,hn,ho,hd⟩,hr⟩:=hl;have hL:=hs L (by unfold frs;rw [List.filterMap_cons,hf];exact List.mem_cons_self);obtain⟨sl,e⟩:=u.slot L o ho hL.2 hL.1 (by simp);exact⟨hk,⟨L,_,hf,hn,e,hd⟩,fNz u r (fun b hb=>hs b (by unfold frs;rw [List.filterMap_cons,hf];exact List.mem_cons_of_mem _ hb)) hr⟩
theorem kCz {P:Program} {w:World} {H':Hp} {h h':Heap} {fs:List Addr} {ea T:Addr} {oe:Obj} {vs:Array Value} {head:Value} (ok:HOk P w H' h) (L:kWz fs h h' ea oe vs head T)
  (h1:H' ea=none) (h2:∀b,head = .ref b→H' b=none) (h3:∀b∈fs,H' b=none):HOk P w H' h':=fun b o hb=>by
 refine (ok b o hb).stay (fun c u hc q=>?_) (fun _ z=>z) fun _ _ z=>z;have hc':H' c≠none:=by
  rcases hc with rfl | hc
  ·rw [hb];simp
  ·rw [hc];simp
 exact L.keep c u q (fun z=>hc' (by rw [z];exact h1)) (fun z=>hc' (h2 c z)) fun z=>hc' (h3 c z)
theorem vEz {H':Hp} {h h':Heap} {fs:List Addr} {ea T:Addr} {oe:Obj} {vs:Array Value} {head:Value} (L:kWz fs h h' ea oe vs head T)
  {H:Hp} {h0:Heap} (u:Un fs [] H H' h0 h) (n1:h0.get? ea=none) (n2:∀b,head = .ref b→h0.get? b=none):Un fs [] H H' h0 h':=by
 have ne1:∀b o,h0.get? b=some o→b≠ea:=fun b o e z=>by rw [z,n1] at e;cases e
 have ne2:∀b o,h0.get? b=some o→head≠.ref b:=fun b o e z=>by rw [n2 b z] at e;cases e
 refine⟨fun b o e n hb hx=>L.keep b o (u.keep b o e n hb hx) (ne1 b o e) (ne2 b o e) hb,fun b o e n hb hx=>?_,u.free,fun b o e hx=>?_,u.tups,u.frzs,u.tbls⟩
 ·obtain⟨sl,e1⟩:=u.slot b o e n hb hx
  obtain⟨sl2,e2⟩:=L.slot b _ e1 (ne1 b o e) (ne2 b o e);exact⟨sl2,e2⟩
 ·obtain⟨o',e1⟩:=u.there b o e hx
  exact L.there b o' e1
section
variable {P:Program} {w:World} {K:W.Frag} {mg:Str→Option Value} {base:Heap} {N:List Str} {qual:Str} {scope:Scope} {f:Addr} {cd:Value} {A:Around} {outer:List Env} {s:Shared} {H:Hp} {E:XK}
theorem Un.enter {X:Cx} {pins:List (Addr×Obj)} {σ : St} {H1 H':Hp} {s1 s':Shared} (I:Inv X pins σ H1 s1) (hx:X.ex=[]) (u:Un (frs X.stack) [] H1 H' s1.heap s'.heap):Un X.fs [] X.H_0 H' X.s_0.heap s'.heap:=by
 have nL:∀b o,X.s_0.heap.get? b=some o→b≠X.env.locals:=fun b o e=>Nat.ne_of_lt (Nat.lt_of_lt_of_le (Heap.lt_size e) I.ok.above);have nx:∀b,b∉X.ex:=fun b z=>by rw [hx] at z;cases z
 refine⟨fun b o e n hb _=>?_,fun b o e n hb _=>?_,fun b o e n _=>?_,fun b o e _=>?_,fun b xs e=>u.tups b xs (I.base.tups b xs e),fun b o v e=>u.frzs b o v (I.base.frzs b o v e),fun b ps e=>?_⟩
 ·refine u.keep b o (I.base.keep b o e n hb (nx b)) (I.base.free b o e n (nx b)) (fun z=>?_) (by simp)
  rcases List.mem_cons.mp (I.stkSub b z) with q | q
  ·exact nL b o e q
  ·exact hb q
 ·obtain⟨sl,e1⟩:=I.base.slot b o e n hb (nx b)
  obtain⟨sl2,e2⟩:=u.any e1 (I.base.free b o e n (nx b)) (by simp);exact⟨sl2,e2⟩
 ·obtain⟨o',e1⟩:=I.base.there b o e (nx b)
  exact u.free b o' e1 (I.base.free b o e n (nx b)) (by simp)
 ·obtain⟨o',e1⟩:=I.base.there b o e (nx b)
  exact u.there b o' e1 (by simp)
 ·obtain⟨m1,e1⟩:=I.base.tbls b ps e
  obtain⟨m2,e2⟩:=u.tbls b _ e1;exact⟨m1++m2,by rw [e2,Array.append_assoc]⟩
theorem passX:mD (CXr P w) (cxOf (CXr P w) P w K mg base N qual scope f cd A outer s H E) E:=by
 intro pins σ H1 s1 e s' I h;obtain⟨ea,cls,dx,H',rfl,F,hE⟩:=h;obtain⟨oe,vs,T,oT,ts,o1,o2,o3,o4,o5,o6,o7,o8,o9,o10,o11⟩:=F.obj;have hfr:=I.ok.frames;have hl:s'.heap.FunFrames base (envOfC qual scope s.heap.objs.size f cd::outer):=fNz F.un _ (fun b hb=>⟨hb,I.stkFree b hb⟩) I.stack;have hst:∀b∈frs (envOfC qual scope s.heap.objs.size f cd::outer),H' b=none:=fun b hb=>by
  obtain⟨_,o,ho,_⟩:=I.stack.mem hb;exact F.un.free b o ho (I.stkFree b hb) (by simp)
 show wpAny (model P w) (A.deeper (envOfC qual scope s.heap.objs.size f cd)) (leaving (envOfC qual scope s.heap.objs.size f cd) (.ref ea)) _ _ s';refine nGz hfr hl rfl o1 o4 o5 (.inr ⟨T,oT,ts,rfl,o6,o7,o8,o9⟩) fun h' T' L=>?_;have u2:Un (frs (envOfC qual scope s.heap.objs.size f cd::outer)) [] H1 H' s1.heap h':=vEz L F.un F.enew fun b z=>by cases z;exact o11
 have old:∀b,s1.heap.get? b=none→s.heap.get? b=none:=fun b z=>by
  cases q:s.heap.get? b with
  | none=>rfl
  | some o =>
   obtain⟨o',e1⟩:=I.base.there b o q (by intro y;cases y);rw [z] at e1;cases e1
 refine⟨ea,cls,dx,H',rfl,⟨F.os.trans I.os,F.bare,Un.enter (X:=cxOf (CXr P w) P w K mg base N qual scope f cd A outer s H E) (s':={s' with heap:=h'}) I rfl u2,kCz F.hok L F.efree (fun b z=>by cases z;exact o10) hst,?_,F.efree,old ea F.enew⟩,hE⟩;obtain⟨oT',ts',t1,t2,t3⟩:=L.tb;refine⟨_,_,T',oT',ts',L.obj,o2,o3,rfl,?_,fun z=>?_,t1,t2,t3,F.hok.fresh L.big,old T' ?_⟩
 ·have:=(Array.getElem?_eq_some_iff.mp o5).1
  simp [this]
 ·have:=L.new
  rw [z,o1] at this;cases this
 ·cases q:s1.heap.get? T' with
  | none=>rfl
  | some o =>
   obtain⟨o',e1⟩:=F.un.there T' o q (by simp)
   have:=L.new
   rw [e1] at this;cases this
end
end L2


namespace L2
open PySem PySem.Spec PyProof.Rows L2x
theorem eY.there {P:Program} {w:World} {H:Hp} {h:Heap} {a:Addr} {o:HO} (x:eY P w H h a o):∃u,h.get? a=some u:=by
 cases o with
 | lst xs=>obtain⟨_,_,_,_,e⟩:=x;exact⟨_,e⟩
 | tup xs=>obtain⟨_,_,_,ob,e,_⟩:=x;exact⟨_,e⟩
 | dK kvs=>obtain⟨_,_,_,_,o,_,_,e,_⟩:=x;exact⟨_,e⟩
 | dT kvs=>obtain⟨_,_,_,_,o,_,_,e,_⟩:=x;exact⟨_,e⟩
 | set S n=>obtain⟨o,_,_,_,e,_⟩:=x;exact⟨_,e⟩
 | ins C dx fs=>obtain⟨_,_,_,e,_⟩:=x;exact⟨_,e⟩
 | own y=>exact x
 | xd fs=>obtain⟨_,⟨_,_,_,e,_⟩,_⟩:=x;exact⟨_,e⟩
 | rng lo hi=>obtain⟨_,_,_,e⟩:=x;exact⟨_,e⟩
 | frz ob u=>obtain⟨e,_⟩:=x;exact⟨_,e⟩
 | tbl ps=>exact⟨_,x⟩
 | met f y=>exact⟨_,x⟩
 | ext φ => exact x.2.1
theorem HOk.free_of {P:Program} {w:World} {H:Hp} {h:Heap} {a:Addr} (x:HOk P w H h) (e:h.get? a=none):H a=none:=by
 cases q:H a with
 | none=>rfl
 | some o =>
  obtain⟨u,z⟩:=(x a o q).there;rw [e] at z;cases z
theorem Inv.laidF {X:Cx} {pins:List (Addr×Obj)} {σ : St} {H:Hp} {s:Shared} {h':Heap} {a:Addr} {o:HO} {t':Nat} (I:Inv X pins σ H s) (k:∀b u,s.heap.get? b=some u→h'.get? b=some u) (hp:s.heap.get? a=none)
  (new:eY X.prog X.w (upd H a o) h' a o):Inv X pins σ (upd H a o) {s with heap:=h',toks:=t'}:=by
 have hn:H a=none:=I.hok.free_of hp;have na:∀b u,s.heap.get? b=some u→b≠a:=fun b u e z=>by rw [z,hp] at e;cases e
 refine I.un ⟨fun b u q _ _ _=>k b u q,fun b u q _ _ _=>⟨u.slots,k b u q⟩,fun b u q n _=>by rw [aO (na b u q)];exact n,fun b u q _=>⟨u,k b u q⟩,fun b xs q=>by rw [aO (aX q hn)];exact q,
  fun b u xs q=>by rw [aO (aX q hn)];exact q,fun b ps q=>⟨#[],by rw [aO (aX q hn),q];simp⟩⟩ fun b u e=>?_
 by_cases hb:b=a
 ·subst hb;rw [aC] at e;cases e;exact new
 ·rw [aO hb] at e
  exact (I.hok b u e).stay (fun c v _ q=>k c v q) (fun c q=>by rw [aO (aX q hn)];exact q) fun c xs q=>by rw [aO (aX q hn)];exact q
def excO (ea C t:Addr) (d:Option Addr):HO := .ext fun h=>∃oe,h.get? ea=some oe∧oe.cls = .ref C∧oe.dict=d∧oe.data = .fields #[.ref t,.none,.none,.none,.bool false,.none]
def gotO (ea C:Addr) (d:Option Addr):HO := .ext fun h=>∃oe vs,h.get? ea=some oe∧oe.cls = .ref C∧oe.dict=d∧oe.data = .fields vs
def nsO (dx:Addr) (fs:List (Str×V)):HO := .ext fun h=>∃mA,h.Ns1 dx mA∧(∀f,RelO (fs.lookup f) (mA f))∧PySem.Within mA (fs.map (·.1))
theorem yBz {P:Program} {w:World} {H:Hp} {h:Heap} {ea C t:Addr} {d:Option Addr} {oe:Obj} (e:h.get? ea=some oe) (h1:oe.cls = .ref C) (h2:oe.dict=d) (h3:oe.data = .fields #[.ref t,.none,.none,.none,.bool false,.none]) :
  eY P w H h ea (excO ea C t d):=⟨⟨oe,e,h1,h2,h3⟩,⟨oe,e⟩,fun _ _ ⟨o,q,r⟩ k=>⟨o,k o q,r⟩⟩
theorem CJz {P:Program} {w:World} {H:Hp} {h:Heap} {ea C:Addr} {d:Option Addr} {oe:Obj} {vs:Array Value} (e:h.get? ea=some oe) (h1:oe.cls = .ref C) (h2:oe.dict=d) (h3:oe.data = .fields vs) :
  eY P w H h ea (gotO ea C d):=⟨⟨oe,vs,e,h1,h2,h3⟩,⟨oe,e⟩,fun _ _ ⟨o,vs,q,r⟩ k=>⟨o,vs,k o q,r⟩⟩
theorem ASz {P:Program} {w:World} {H:Hp} {h:Heap} {dx:Addr} {fs:List (Str×V)} {mA:Str→Option Value} (n:h.Ns1 dx mA) (r:∀f,RelO (fs.lookup f) (mA f)) (q:PySem.Within mA (fs.map (·.1))):eY P w H h dx (nsO dx fs) :=
 ⟨⟨mA,n,r,q⟩,let ⟨o,_,_,e,_⟩:=n;⟨o,e⟩,fun _ _ ⟨mB,n2,r2⟩ k=>⟨mB,n2.at k,r2⟩⟩
def strKeysB (es:Array DictEntry):Bool:=es.all fun e=>match e.key with | .str _ _=>true | _=>false
def exIn (K:W.Frag) (C:Addr) (init:Option Value) (no:List Str):Bool:=match K.lookup C with
 | some ⟨.type "type",_,.cls cd,sl⟩=>(match cd.mro,sl.toList with
  | .ref C'::bm,[_,_,_,_,some (.builtin n),_]=>C' == C&&(bm == exMro)&&(n == "Exception.__new__")&&cd.hasDict && !cd.hasDel&&(match K.lookup cd.ns with
    | some ⟨_,_,.dict es _,_⟩=>strKeysB es&&(nsFind es "__init__" == init)&&no.all fun x=>nsFind es x == none
    | _=>false)
  | _,_=>false)
 | _=>false
theorem vB {K:W.Frag} {h:Heap} {C:Addr} {init:Option Value} {no:List Str} (X:K.In h) (q:exIn K C init no=true):∃nm qn N bs sn sub ab col dd k0 k1 k2 k3 k5 mN,
  h.get? C=some (excClassObj nm qn C N bs exMro true sn sub ab col dd k0 k1 k2 k3 k5 "Exception.__new__")∧h.Ns N mN∧mN "__init__" = init∧∀x∈no,mN x=none:=by
 unfold exIn at q;split at q
 ·rename_i dd cd sl ho
  split at q
  ·rename_i C' bm k0 k1 k2 k3 n k5 hm hs
   simp only [Bool.and_eq_true,beq_iff_eq,Bool.not_eq_true'] at q;obtain⟨⟨⟨⟨⟨rfl,hbm⟩,hnew⟩,hdict⟩,hdel⟩,hns⟩:=q;obtain⟨nm,bs,mro,ns,qn,hd,sn,sub,ab,col,del⟩:=cd;dsimp only at hm hdel hdict hns;subst hm hdel hdict hbm hnew;have hsl:sl = #[k0,k1,k2,k3,some (.builtin "Exception.__new__"),k5]:=by
    obtain⟨l⟩:=sl;simp only at hs;rw [hs]
   subst hsl;split at hns
   ·rename_i c0 d0 es ep sl0 ho2
    simp only [Bool.and_eq_true,List.all_eq_true,beq_iff_eq] at hns;obtain⟨⟨h1,h2⟩,h3⟩:=hns;refine⟨nm,qn,ns,bs,sn,sub,ab,col,dd,k0,k1,k2,k3,k5,nsFind es,X _ _ ho,⟨_,es,ep,X _ _ ho2,rfl,fun e he=>?_,fun _=>rfl⟩,h2,h3⟩;unfold strKeysB at h1
    have:=Array.all_eq_true_iff_forall_mem.mp h1 e he
    split at this
    ·rename_i n t hk
     exact⟨n,t,hk⟩
    ·cases this
   ·cases hns
  ·cases q
 ·cases q
def unT (H:Hp) (ea:Addr):Hp:=fun b=>if b=ea then none else H b
theorem rDz {H:Hp} {ea:Addr}:unT H ea ea=none:=if_pos rfl
theorem rEz {H:Hp} {ea b:Addr} (h:b≠ea):unT H ea b=H b:=if_neg h
theorem A9z {H:Hp} {ea:Addr} {o:HO} (h:H ea=none):unT (upd H ea o) ea=H:=by
 funext b
 by_cases hb:b=ea
 ·rw [hb,rDz,h]
 ·rw [rEz hb,aO hb]
def tBz (X:Cx) (E:XK):Prop := ∀(pins:List (Addr×Obj)) (σ : St) (H:Hp) (s:Shared) (ea C t:Addr) (d:Option Addr),Inv X pins σ H s→X.s_0.heap.get? ea=none→H ea=some (excO ea C t d)→E (.ref C) d (unT H ea)→X.xe (.ref ea) s
section
variable {P:Program} {w:World} {K:W.Frag} {mg:Str→Option Value} {base:Heap} {N:List Str} {qual:Str} {scope:Scope} {f:Addr} {cd:Value} {A:Around} {outer:List Env} {s:Shared} {H:Hp} {E:XK}
theorem raiseX:tBz (cxOf (CXr P w) P w K mg base N qual scope f cd A outer s H E) E:=by
 intro pins σ H1 s1 ea C t d I hnew hea hE;obtain⟨⟨oe,e1,e2,e3,e4⟩,_,_⟩:=I.hok ea _ hea;have hst:∀b∈frs (envOfC qual scope s.heap.objs.size f cd::outer),H1 b=none:=fun b hb=>I.stkFree b hb;have efree:(unT H1 ea) ea=none:=rDz;have oth:∀b,b≠ea→(unT H1 ea) b=H1 b:=fun b hb=>rEz hb;have hok0:HOk P w (unT H1 ea) s1.heap:=fun b o hb=>by
  have hbe:b≠ea:=fun z=>by rw [z,efree] at hb;cases hb
  rw [oth b hbe] at hb;refine (I.hok b o hb).stay (fun _ _ _ q=>q) (fun c q=>?_) fun c xs q=>?_
  ·rw [oth c fun z=>by rw [z,hea] at q;cases q];exact q
  ·rw [oth c fun z=>by rw [z,hea] at q;cases q];exact q
 show wpAny (model P w) (A.deeper (envOfC qual scope s.heap.objs.size f cd)) (leaving (envOfC qual scope s.heap.objs.size f cd) (.ref ea)) _ _ s1;refine nGz I.ok.frames I.stack rfl e1 e4 rfl (.inl rfl) fun h' T L=>?_;have u0:Un (frs (envOfC qual scope s.heap.objs.size f cd::outer)) [] H1 (unT H1 ea) s1.heap s1.heap :=
  ⟨fun b o q _ _ _=>q,fun b o q _ _ _=>⟨o.slots,q⟩,fun b o _ n _=>by
   by_cases hb:b=ea
   ·rw [hb];exact efree
   ·rw [oth b hb];exact n,fun b o q _=>⟨o,q⟩,fun b xs q=>by rw [oth b fun z=>by rw [z,hea] at q;cases q];exact q,fun b o v q=>by rw [oth b fun z=>by rw [z,hea] at q;cases q];exact q,
   fun b ps q=>⟨#[],by rw [oth b (fun z=>by rw [z,hea] at q;cases q),q];simp⟩⟩
 have u1:Un (frs outer) [] H (unT H1 ea) s.heap s1.heap:=Un.enter (X:=cxOf (CXr P w) P w K mg base N qual scope f cd A outer s H E) (s':=s1) I rfl u0;have u2:Un (frs outer) [] H (unT H1 ea) s.heap h':=by
  have ne1:∀b o,s.heap.get? b=some o→b≠ea:=fun b o q z=>by
   have hn:s.heap.get? ea=none:=hnew;rw [z,hn] at q;cases q
  have nL:∀b o,s.heap.get? b=some o→b≠s.heap.objs.size:=fun b o q=>Nat.ne_of_lt (Heap.lt_size q);refine⟨fun b o q n hb hx=>L.keep b o (u1.keep b o q n hb hx) (ne1 b o q) (by intro z;cases z) fun z=>?_,fun b o q n hb hx=>?_,u1.free,fun b o q hx=>?_,u1.tups,u1.frzs,u1.tbls⟩
  ·have z':b∈s.heap.objs.size::frs outer:=z
   rcases List.mem_cons.mp z' with y | y
   ·exact nL b o q y
   ·exact hb y
  ·obtain⟨sl,q1⟩:=u1.slot b o q n hb hx
   obtain⟨sl2,q2⟩:=L.slot b _ q1 (ne1 b o q) (by intro z;cases z);exact⟨sl2,q2⟩
  ·obtain⟨o',q1⟩:=u1.there b o q hx
   exact L.there b o' q1
 refine⟨ea,.ref C,d,_,rfl,⟨I.os,I.bare,u2,kCz hok0 L efree (fun b z=>by cases z) fun b hb=>?_,?_,efree,hnew⟩,hE⟩
 ·by_cases hbe:b=ea
  ·rw [hbe];exact efree
  ·rw [oth b hbe];exact hst b hb
 ·obtain⟨oT,ts,t1,t2,t3⟩:=L.tb
  refine⟨_,_,T,oT,ts,L.obj,e2,e3,rfl,by simp,fun z=>?_,t1,t2,t3,hok0.fresh L.big,?_⟩
  ·have:=L.new
   rw [z,e1] at this;cases this
  ·cases q:s.heap.get? T with
   | none=>rfl
   | some o =>
    obtain⟨o',q1⟩:=I.base.there T o q (by intro y;cases y)
    have:=L.new
    rw [q1] at this;cases this
end
end L2


namespace L2
open PySem PySem.Spec PyProof.Rows L2x
section
variable {X:Cx} {pins:List (Addr×Obj)} {σ : St} {H:Hp} {s:Shared} {h':Heap}
theorem Inv.put1 {ea d:Addr} {o1 o2:HO} {t':Nat} (I:Inv X pins σ H s) (mu:Mut (H ea)) (hd:s.heap.objs.size≤d) (k:∀b u,b≠ea→s.heap.get? b=some u→h'.get? b=some u) (he:∃u,h'.get? ea=some u)
  (n1:eY X.prog X.w (upd (upd H d o1) ea o2) h' d o1) (n2:eY X.prog X.w (upd (upd H d o1) ea o2) h' ea o2) (hne:d≠ea):Inv X pins σ (upd (upd H d o1) ea o2) {s with heap:=h',toks:=t'}:=by
 have hdn:H d=none:=I.hok.fresh hd;have nea:∀b,H b=none→b≠ea:=fun b q z=>by rw [z] at q;rw [q] at mu;exact mu
 have nd:∀b u,s.heap.get? b=some u→b≠d:=fun b u q z=>by
  have h1:=Heap.lt_size q;rw [z] at h1;exact absurd h1 (Nat.not_lt_of_le hd)
 have old:∀b u,H b=some u→¬ Mut (some u)→upd (upd H d o1) ea o2 b=some u:=fun b u q m=>by
  rw [aO (fun z=>m (by rw [← q,z];exact mu)),aO (aX q hdn)];exact q
 refine I.un ⟨fun b u q n _ _=>k b u (nea b n) q,fun b u q n _ _=>⟨u.slots,k b u (nea b n) q⟩,fun b u q n _=>by rw [aO (nea b n),aO (nd b u q)];exact n,fun b u q _=>?_,fun b xs q=>old b _ q (fun z=>z),fun b u xs q=>old b _ q (fun z=>z),fun b ps q=>⟨#[],by rw [old b _ q (fun z=>z)];simp⟩⟩ fun b u e=>?_
 ·by_cases hb:b=ea
  ·rw [hb];exact he
  ·exact⟨u,k b u hb q⟩
 ·by_cases hb:b=ea
  ·rw [hb,aC] at e
   cases e;rw [hb];exact n2
  ·rw [aO hb] at e
   by_cases hbd:b=d
   ·rw [hbd,aC] at e
    cases e;rw [hbd];exact n1
   ·rw [aO hbd] at e
    refine (I.hok b u e).stay (fun c v hc q=>k c v (fun z=>?_) q) (fun c q=>old c _ q (fun z=>z)) fun c xs q=>old c _ q (fun z=>z);rcases hc with hc | hc
    ·exact hb (hc.symm.trans z)
    ·rw [z] at hc
     rw [hc] at mu;exact mu
end
def sX1 (C:Addr) (ta tv:TE) (f:Str):TS:=fun D σ H=>tv σ H fun y H1=>ta σ H1 fun x H2=>∃ea t,x = .ref ea∧H2 ea=some (excO ea C t none)∧∀d,H2 d=none→d≠ea→D.nx σ (upd (upd H2 d (nsO d [(f,y)])) ea (excO ea C t (some d)))
def sX2 (C:Addr) (ta tv:TE) (f:Str):TS:=fun D σ H=>tv σ H fun y H1=>ta σ H1 fun x H2=>∃ea t d fs,x = .ref ea∧H2 ea=some (excO ea C t (some d))∧H2 d=some (nsO d fs)∧d≠ea∧fs.length<1000∧D.nx σ (upd H2 d (nsO d (putF f y fs)))
section
variable {X:Cx} {o value:Expr} {f:Str} {pos pos':Pos} {ta tv:TE} {C:Addr} {init:Option Value} {no:List Str}
theorem ps_x1 (ha:PE X o ta) (hv:PE X value tv) (q:exIn X.K C init no=true) (hs:("__setattr__" : Str)∈no) (hf:f∈no) (hl:typeLookup (.type "Exception") f=pure none)
  (hw:swapsWith value (some (.Attribute o f pos')) pos.line X.env=pure false):PS X (.Assign [.Attribute o f pos'] value pos) (sX1 C ta tv f):=by
 intro pins s σ H D I h;refine plainObj_wpAny_Assign_Attribute (thn (hv pins s σ H _ I h) fun u s1 ⟨y,H1,I1,ry,q1⟩=>thn (ha pins s1 σ H1 _ I1 q1) fun ov s2 ⟨x,H2,I2,rx,ea,t,ex,e1,q2⟩=>?_) hw;subst ex;obtain rfl:ov=Value.ref ea:=rx;obtain⟨nm,qn,N,bs,sn,sub,ab,col,dd,k0,k1,k2,k3,k5,mN,hC,hN,_,hno⟩:=vB I2.kIn q;obtain⟨⟨oe,x1,x2,x3,x4⟩,_,_⟩:=I2.hok ea _ e1;obtain⟨hp,g,dr,tk,os⟩:=s2;refine z1z hC hN (hno _ hs) (hno _ hf) hl x1 x2 x3 ⟨_,x4⟩ fun h' tk' P=>?_;have hne:hp.objs.size≠ea:=fun z=>absurd (Heap.lt_size x1) (by rw [z];exact Nat.lt_irrefl _);refine⟨σ,_,I2.put1 (d:=hp.objs.size) (o1:=nsO hp.objs.size [(f,y)]) (o2:=excO ea C t (some hp.objs.size)) (by rw [e1];exact True.intro) (Nat.le_refl _) (fun b o hb z=>P.keep b o hb z) ⟨_,P.obj⟩ (ASz P.ns (fun g=>?_) (fun g hg=>?_)) (yBz P.obj x2 rfl x4) hne,q2 _ (I2.hok.fresh (Nat.le_refl _)) hne⟩
 ·show RelO (List.lookup g [(f,y)]) (if g=f then some u else none)
  by_cases z:g=f
  ·rw [if_pos z,z,List.lookup_cons,beq_self_eq_true]
   exact ry
  ·rw [if_neg z,List.lookup_cons,show (g == f)=false from beq_eq_false_iff_ne.mpr z]
   trivial
 ·by_cases z:g=f
  ·simp [z]
  ·exact absurd (if_neg z) hg
theorem ps_x2 (ha:PE X o ta) (hv:PE X value tv) (q:exIn X.K C init no=true) (hs:("__setattr__" : Str)∈no) (hf:f∈no) (hl:typeLookup (.type "Exception") f=pure none)
  (hw:swapsWith value (some (.Attribute o f pos')) pos.line X.env=pure false):PS X (.Assign [.Attribute o f pos'] value pos) (sX2 C ta tv f):=by
 intro pins s σ H D I h;refine plainObj_wpAny_Assign_Attribute (thn (hv pins s σ H _ I h) fun u s1 ⟨y,H1,I1,ry,q1⟩=>thn (ha pins s1 σ H1 _ I1 q1) fun ov s2 ⟨x,H2,I2,rx,ea,t,d,fs,ex,e1,e2,hne,hlen,q2⟩=>?_) hw;subst ex;obtain rfl:ov=Value.ref ea:=rx;obtain⟨nm,qn,N,bs,sn,sub,ab,col,dd,k0,k1,k2,k3,k5,mN,hC,hN,_,hno⟩:=vB I2.kIn q;obtain⟨⟨oe,x1,x2,x3,x4⟩,_,_⟩:=I2.hok ea _ e1;obtain⟨⟨mA,y1,y2,y3⟩,_,_⟩:=I2.hok d _ e2;obtain⟨hp,g,dr,tk,os⟩:=s2;have hne':ea≠C:=fun z=>by
  rw [z] at x1;have z2:=hC.symm.trans x1;cases z2;cases x4
 refine CTz hC hN (hno _ hs) (hno _ hf) hl hne' ⟨oe,x1,x2,(by rw [x4];intro c z;cases z),.inr ⟨d,x3,hne,y1⟩⟩ (fun h' tk' P K S=>?_) y3 (by rw [List.length_map,sizeLine_eq];omega);obtain⟨o1,s1,s2,s3,s4,s5⟩:=S oe x1;have so:o1=oe:=by
  obtain⟨a1,a2,a3,a4⟩:=o1;obtain⟨b1,b2,b3,b4⟩:=oe;have s5':=s5 d x3;dsimp only at s2 s3 s4 s5' x3;rw [s2,s3,s4,s5',x3]
 have keep:∀b o,b≠d→hp.get? b=some o→h'.get? b=some o:=fun b o hb z=>by
  by_cases hbe:b=ea
  ·rw [hbe] at z ⊢
   rw [x1] at z;cases z;rw [s1,so]
  ·refine K b o hbe (fun o0 dx z1 z2=>?_) z
   rw [x1] at z1;cases z1;rw [x3] at z2;cases z2;exact hb
 obtain⟨o',z1,z2,z3,z4⟩:=P;have ns':h'.Ns1 d (fun y=>if y=f then some u else mA y):=by
  rw [s1,so] at z1;cases z1;rcases z4 with ⟨z4,_⟩ | ⟨d',z4,_,z5⟩
  ·rw [x3] at z4;cases z4
  ·rw [x3] at z4
   cases z4;exact z5
 refine⟨σ,_,I2.write (x:=d) (e:=d) (t':=tk') (by rw [e2];exact True.intro) (.inl rfl) (fun b o hb z=>keep b o hb z) (let ⟨o,_,_,e',_⟩:=ns';⟨o,e'⟩) (ASz ns' (fun g=>?_) fun g hg=>?_),q2⟩
 ·show RelO ((putF f y fs).lookup g) (if g=f then some u else mA g)
  rw [wB]
  by_cases q:g=f
  ·rw [if_pos q,if_pos q];exact ry
  ·rw [if_neg q,if_neg q];exact y2 g
 ·by_cases q:g=f
  ·rw [q];exact (sK f y fs).1
  ·refine (sK f y fs).2 g (y3 g fun z=>hg ?_)
   show (if g=f then some u else mA g)=none;rw [if_neg q];exact z
end
end L2


namespace L2
open PySem PySem.Spec PyProof.Rows L2x
theorem Inv.exc {X:Cx} {pins:List (Addr×Obj)} {σ : St} {H:Hp} {s:Shared} {h':Heap} {ea C:Addr} {us:List Value} (I:Inv X pins σ H s) (hx:X.ex=[]) (m:Heap.MadeExcOf s.heap h' ea (.ref C) us) :
  ∃t,Inv X pins σ (upd H ea (excO ea C t none)) {s with heap:=h'}∧H ea=none∧X.s_0.heap.get? ea=none:=by
 obtain⟨t,h1,_,_⟩:=m.there;refine⟨t,I.laidF (t':=s.toks) m.keeps m.new (yBz h1 rfl rfl rfl),I.hok.free_of m.new,?_⟩;cases q:X.s_0.heap.get? ea with
 | none=>rfl
 | some o =>
  obtain⟨o',e1⟩:=I.base.there ea o q (by rw [hx];simp);rw [m.new] at e1;cases e1
def tExc0 (X:Cx) (C:Addr):TE:=fun _ H Q=>∀ea t,H ea=none→X.s_0.heap.get? ea=none→Q (.ref ea) (upd H ea (excO ea C t none))
def tExcI (X:Cx) (C:Addr) (sp:Sp) (E:XK) (t:TA):TE:=fun σ H Q=>t σ H fun vs H1=>vs.length≤100∧∀ea ta,H1 ea=none→X.s_0.heap.get? ea=none→sp (.ref ea::vs) (upd H1 ea (excO ea C ta none)) (fun v H2=>v = .non∧Q (.ref ea) H2) E
def tRaise (X:Cx) (te:TE) (E:XK):TS:=fun _ σ H=>te σ H fun v H1=>∃ea C t d init no,v = .ref ea∧exIn X.K C init no=true∧H1 ea=some (excO ea C t d)∧X.s_0.heap.get? ea=none∧E (.ref C) d (unT H1 ea)
section
variable {X:Cx} {CX:CXT} {k:Nat} {f C:Addr} {fd:FuncData} {ps:List Str} {sp:Sp} {E:XK} {x:Str} {p pos:Pos} {e:Expr} {es:List Expr} {t:TA} {te:TE} {no:List Str}
theorem BUz (q:exIn X.K C none no=true) (hx:X.ex=[]) (hk:W.keepIn X.K (.ref C)=true) (hg:Gl X x) (hm:X.mg x=some (.ref C)) (hdb:(x == ("__debug__" : Str))=false:=by decide):PE X (.Call (.Name x p) [] [] pos) (tExc0 X C):=by
 intro pins s σ H Q I h;refine wpAny_Call_Name_kw (qA I hg hm ?_ hdb);refine W.callWith_K0 I.kIn hk ?_;obtain⟨nm,qn,N,bs,sn,sub,ab,col,dd,k0,k1,k2,k3,k5,mN,hC,hN,hi,_⟩:=vB I.kIn q;obtain⟨hp,g,dr,tk,os⟩:=s;refine wpAny_call_exc_sub PySem.F.excBase_Exception hC hN hi (fun h' ea m=>?_) (Nat.zero_le _);obtain⟨t,I2,n1,n2⟩:=I.exc hx m;exact⟨.ref ea,_,I2,rfl,h ea t n1 n2⟩
theorem BTz {fI:Addr} {oI:Obj} (q:exIn X.K C (some (.ref fI)) no=true) (hfI:X.K.lookup fI=some oI) (hfc:oI.cls = .type "function") (F:FnOk X.prog X.w X.K X.mg X.base CX k fI fd ps sp) (hr:Room (k+1) X.A) (hb:aOz X.K fd ps [])
  (hps:mD CX X E) (hx:X.ex=[]) (hk:W.keepIn X.K (.ref C)=true) (hg:Gl X x) (hm:X.mg x=some (.ref C)) (ha:PA X (e::es) t)
  (hdb:(x == ("__debug__" : Str))=false:=by decide) (he:starEach (e::es) X.env=(false,eval e X.env)::starEach es X.env:=by rfl) (hpl:(backTo pos (starEach es X.env)).any (·.1)=false:=by rfl) :
  PE X (.Call (.Name x p) (e::es) [] pos) (tExcI X C sp E t):=by
 intro pins s σ H Q I h;refine wpAny_Call_Name_kw (qA I hg hm ?_ hdb);refine W.callWith_K (h₀ := X.base) I.ok.mod.kin hk (thn (ha pos pins s σ H _ I h) fun us s1 ⟨vs,H1,I1,r,hl,q1⟩=>⟨I1.kIn,?_⟩) he hpl;obtain⟨nm,qn,N,bs,sn,sub,ab,col,dd,k0,k1,k2,k3,k5,mN,hC,hN,hi,_⟩:=vB I1.kIn q;obtain⟨hp,g,dr,tk,os⟩:=s1;refine wpAny_call_exc_init PySem.F.excBase_Exception hC hN hi (I1.kIn _ _ hfI) hfc (fun h' ea m=>?_) (by show ([]++us).length≤sizeLine;rw [List.nil_append,← r.length,sizeLine_eq];omega);obtain⟨t,I2,n1,n2⟩:=I1.exc hx m;have hq:=q1 ea t n1 n2;have r2:Vals (V.ref ea::vs) (Value.ref ea::us) := .cons rfl r;have hl2:(Value.ref ea::us).length=ps.length:=by rw [← r2.length];exact F.len _ _ _ _ hq
 refine wpAny_call (codeAny_mono (F.run _ X.stack _ _ ⟨Value.ref ea::us,[]⟩ (Value.ref ea::us) _ _ E (hr.make C us []) (I2.env0.make C us []) (by have:=hb {heap:=h',gens:=g,drawn:=dr,toks:=tk,os:=os} (Value.ref ea::us) I2.kIn (by rw [List.append_nil];exact hl2);rw [List.append_nil] at this;exact this) r2 hq) fun r s' hq'=>?_);cases r with
 | error e=>exact hps pins σ _ _ e s' I2 hq'
 | ok fl =>
  cases fl with
  | ret u =>
   obtain⟨v,H',I3,rv,ev,q3⟩:=I2.after hq';subst ev;exact⟨rv,⟨V.ref ea,H',I3,rfl,q3⟩⟩
  | next=>exact False.elim hq'
  | brk=>exact False.elim hq'
  | cont=>exact False.elim hq'
theorem rXz (he:PE X e te) (hc:X.calm=true) (hx:tBz X E):PS X (.Raise (some e) none pos) (tRaise X te E):=by
 intro pins s σ H D I h;rw [arm_exec_Raise];have hh:=I.ok.hd hc;refine wpAny_bind (wpAny_standAt ?_);have main:wpAny (model X.prog X.w) X.A (eval e X.env) (fun v s1=>∃ea C t d init no H1,v = .ref ea∧Inv X pins σ H1 s1∧exIn X.K C init no=true∧H1 ea=some (excO ea C t d)∧X.s_0.heap.get? ea=none∧E (.ref C) d (unT H1 ea)) X.xe s:=by
  refine thn (he pins s σ H _ I h) fun u s1 ⟨v,H1,I1,rv,ea,C,t,d,init,no,ev,q,h1,h2,h3⟩=>?_;subst ev;exact⟨ea,C,t,d,init,no,H1,rv,I1,q,h1,h2,h3⟩
 unfold raiseStmt;refine wpAny_bind (wpAny_bind (wpAny_mono main (fun v s1 h1=>?_) fun _ _ z=>z));refine wpAny_bind (wpAny_standAt (wpAny_pure ?_));obtain⟨ea,C,t,d,init,no,H1,rfl,I1,q,e1,e2,e3⟩:=h1;obtain⟨nm,qn,N,bs,sn,sub,ab,col,dd,k0,k1,k2,k3,k5,mN,hC,hN,hi,_⟩:=vB I1.kIn q;obtain⟨⟨oe,x1,x2,x3,x4⟩,_,_⟩:=I1.hok ea _ e1;have hE:X.xe (.ref ea) s1:=hx pins σ H1 s1 ea C t d I1 e2 e1 e3;have hcB:(Value.ref C::exMro).contains (.type "BaseException")=true:=by rw [List.contains_cons,show exMro.contains (Value.type "BaseException")=true from by decide +kernel,Bool.or_true]
 obtain⟨hp,g,dr,tk,os⟩:=s1;obtain⟨c0,d0,dt,sl⟩:=oe;obtain rfl:c0 = .ref C:=x2;obtain rfl:dt=_:=x4
 repeat (first | with_reducible refine wpAny_loadPart_at x1 ?_ | with_reducible refine wpAny_loadPart_at hC ?_ | (with_reducible refine wpAny_isSubtype_exc hC ?_;rw [hcB]) | wp_step)
 exact wpAny_raiseNew_none hh hE
end
end L2


namespace L2
open PySem PySem.Spec PyProof.Rows L2x
structure gAz (X:Cx) (pins:List (Addr×Obj)) (σ : St) (H:Hp) (s:Shared) (ea C:Addr) (dx:Option Addr) (T:Addr):Prop where
 inv:Inv X pins σ H s
 obj:∃oe vs,s.heap.get? ea=some oe∧oe.cls = .ref C∧oe.dict=dx∧oe.data = .fields vs∧vs[1]?=some (.ref T)
 tb:∃oT ts,s.heap.get? T=some oT∧oT.data = .fields ts∧3<ts.size
 ne:T≠ea
 hT:H T=none
 he:H ea=none
 tS:X.s_0.heap.objs.size≤T
 tL:T≠X.env.locals
 tC:∀x c,X.env.cells.lookup x=some c→c≠T
 tP:∀p∈X.pn++pins,p.1≠T
 eS:X.s_0.heap.get? ea=none
 eL:ea≠X.env.locals
 eC:∀x c,X.env.cells.lookup x=some c→c≠ea
 eP:∀p∈X.pn++pins,p.1≠ea
section
variable {X:Cx} {pins:List (Addr×Obj)} {σ : St} {H1 H':Hp} {s1 s':Shared} {ea C:Addr} {dx:Option Addr}
theorem yKz {Q:Unit→Shared→Prop} {E:Value→Shared→Prop} (I:Inv X pins σ H1 s1) (hx:X.ex=[]) (hst:X.stack=X.env::X.outer) (hfr:X.env.frame=some X.env.locals) (F:Fly X.prog X.w X.stack H1 s1 ea (.ref C) dx H' s')
  (k:∀h' T,gAz X pins σ H' {s' with heap:=h'} ea C dx T→Q () {s' with heap:=h'}) :
  wpAny (model X.prog X.w) X.A (noteFrame (.ref ea) X.env) (fun _ s2=>wpAny (model X.prog X.w) X.A (setFlight (.ref ea) none) Q E s2) E s':=by
 obtain⟨oe,vs,T,oT,ts,o1,o2,o3,o4,o5,o6,o7,o8,o9,o10,o11⟩:=F.obj;have hf:=I.ok.frames;rw [hst] at hf;have hl0:=I.stack;have hl:s'.heap.FunFrames X.base X.stack:=fNz F.un _ (fun b hb=>⟨hb,I.stkFree b hb⟩) hl0;have hl':=hl;rw [hst] at hl';have hsf:∀b∈frs X.stack,H' b=none:=fun b hb=>by
  obtain⟨_,o,ho,_⟩:=I.stack.mem hb;exact F.un.free b o ho (I.stkFree b hb) (by simp)
 have hfs:(X.env::X.outer).filterMap (·.frame)=frs X.stack:=by rw [hst];rfl
 refine sEz hf hl' hfr o1 o4 o5 (.inr ⟨T,oT,ts,rfl,o6,o7,o8,o9⟩) fun h' T' L=>?_;rw [hfs] at L;have u2:Un (frs X.stack) [] H1 H' s1.heap h':=vEz L F.un F.enew fun b z=>by cases z;exact o11
 have okL:HOk X.prog X.w H' h':=kCz F.hok L F.efree (fun b z=>by cases z;exact o10) hsf;have I':Inv X pins σ H' {s' with heap:=h'}:=I.call' (s':={s' with heap:=h'}) F.os u2 okL F.bare fun b z=>nomatch z;obtain⟨oT',ts',t1,t2,t3⟩:=L.tb;have lt1:∀b o,s1.heap.get? b=some o→b≠T':=fun b o q z=>by
  obtain⟨o',e1⟩:=F.un.there b o q (by simp);rw [z,L.new] at e1;cases e1
 have lt2:∀b o,s1.heap.get? b=some o→b≠ea:=fun b o q z=>by
  rw [z,F.enew] at q;cases q
 obtain⟨m,⟨oL,_,_,hoL,_⟩,_⟩:=id I.loc;refine k h' T' ⟨I',⟨_,_,L.obj,o2,o3,rfl,?_⟩,⟨_,_,t1,t2,(Array.getElem?_eq_some_iff.mp t3).1⟩,fun z=>?_,F.hok.fresh L.big,F.efree,?_,fun z=>lt1 _ _ hoL z.symm,fun x c hc=>?_,fun p hp=>lt1 _ _ (I.pin p hp).1,?_,fun z=>lt2 _ _ hoL z.symm,fun x c hc=>?_,fun p hp=>lt2 _ _ (I.pin p hp).1⟩
 ·have:=(Array.getElem?_eq_some_iff.mp o5).1
  simp [this]
 ·have:=L.new
  rw [z,o1] at this;cases this
 ·obtain⟨o',e1⟩:=F.un.there _ _ hoL (by simp)
  exact Nat.le_trans (Nat.le_trans I.ok.above (Nat.le_of_lt (Heap.lt_size e1))) L.big
 ·obtain⟨v,o,ho,_⟩:=I.cell x c hc
  exact lt1 _ _ ho
 ·cases q:X.s_0.heap.get? ea with
  | none=>rfl
  | some o =>
   obtain⟨o',e1⟩:=I.base.there ea o q (by rw [hx];simp);rw [F.enew] at e1;cases e1
 ·obtain⟨v,o,ho,_⟩:=I.cell x c hc
  exact lt2 _ _ ho
end
abbrev Cx.hand (X:Cx) (ea:Addr) (E:Value→Shared→Prop):Cx:={X with A:=X.A.mark (some (.ref ea)),calm:=false,xe:=E}
theorem Cx.Ok.hand {X:Cx} (ok:X.Ok) (ea:Addr) (E:Value→Shared→Prop):(X.hand ea E).Ok :=
 ⟨ok.mod,ok.kind,ok.glob,ok.blt,ok.above,ok.inj,ok.has,ok.cab,fun z=>(by cases z),ok.frames,ok.stk,ok.exf,ok.bs,ok.bsz,ok.noex,ok.exfs,ok.funs,ok.frf⟩
section
variable {X:Cx} {pins:List (Addr×Obj)} {σ : St} {H:Hp} {s:Shared} {ea:Addr} {E:Value→Shared→Prop}
theorem Inv.hand (I:Inv X pins σ H s) (ea:Addr) (E:Value→Shared→Prop):Inv (X.hand ea E) pins σ H s:=⟨I.ok.hand ea E,I.os,I.bare,I.base,I.loc,I.cell,I.free,I.freeC,I.pin,I.hok,I.len⟩
theorem Inv.unhand (ok:X.Ok) (I:Inv (X.hand ea E) pins σ H s):Inv X pins σ H s:=⟨ok,I.os,I.bare,I.base,I.loc,I.cell,I.free,I.freeC,I.pin,I.hok,I.len⟩
theorem SP.unhand {D:Ends} {f:Flow} {s':Shared} (ok:X.Ok) (h:SP (X.hand ea E) pins D f s'):SP X pins D f s':=by
 cases f with
 | next=>obtain⟨σ',H',I,q⟩:=h;exact⟨σ',H',I.unhand ok,q⟩
 | brk=>obtain⟨σ',H',I,q⟩:=h;exact⟨σ',H',I.unhand ok,q⟩
 | cont=>obtain⟨σ',H',I,q⟩:=h;exact⟨σ',H',I.unhand ok,q⟩
 | ret u=>obtain⟨v,σ',H',I,r,q⟩:=h;exact⟨v,σ',H',I.unhand ok,r,q⟩
end
section
variable {X:Cx} {pins:List (Addr×Obj)} {σ : St} {H:Hp} {s:Shared} {ea C T:Addr} {dx:Option Addr}
theorem gAz.land {M:Model} {A:Around} {E:Value→Shared→Prop} {Q:Unit→Shared→Prop} (G:gAz X pins σ H s ea C dx T) (k:∀h',gAz X pins σ H {s with heap:=h'} ea C dx T→Q () {s with heap:=h'}):wpAny M A (setFlight (.ref ea) none) Q E s:=by
 obtain⟨oe,vs,o1,o2,o3,o4,o5⟩:=G.obj;obtain⟨oT,ts,t1,t2,t3⟩:=G.tb;unfold setFlight;refine wpAny_bind (wpAny_field o1 o4 o5 ?_);rw [if_pos (show (Value.ref T != Value.none)=true from by simp)];refine wpAny_setField t1 t2 t3 (k _ ⟨G.inv.turned (t':=s.toks) (it:=T) (fun b o hb z=>by rw [Heap.get?_update_other _ _ (Ne.symm hb)];exact z) G.hT G.tL (.inr G.tS) G.tC G.tP,⟨oe,vs,?_,o2,o3,o4,o5⟩,⟨_,_,rCz t1 t2 _,rfl,by simp [t3]⟩,G.ne,G.hT,G.he,G.tS,G.tL,G.tC,G.tP,G.eS,G.eL,G.eC,G.eP⟩);rw [Heap.get?_update_other _ _ G.ne];exact o1
theorem gAz.track (G:gAz X pins σ H s ea C dx T):Inv X pins σ (upd H ea (gotO ea C dx)) s:=by
 obtain⟨oe,vs,o1,o2,o3,o4,o5⟩:=G.obj;have I:=G.inv;have old:∀b u,H b=some u→upd H ea (gotO ea C dx) b=some u:=fun b u q=>by rw [aO (aX q G.he)];exact q
 have new:∀b,b≠ea→H b=none→upd H ea (gotO ea C dx) b=none:=fun b hb q=>by rw [aO hb];exact q
 refine⟨I.ok,I.os,I.bare,⟨I.base.keep,I.base.slot,fun b o q n hb=>?_,I.base.there,fun b xs q=>old _ _ (I.base.tups b xs q),fun b o u q=>old _ _ (I.base.frzs b o u q),fun b ps q=>?_⟩,I.loc,I.cell,new _ (Ne.symm G.eL) I.free,fun x c hc=>new _ (G.eC x c hc) (I.freeC x c hc),fun p hp=>?_,fun b u q=>?_,I.len⟩
 ·exact new _ (fun z=>by rw [z,G.eS] at q;cases q) (I.base.free b o q n hb)
 ·obtain⟨m,e⟩:=I.base.tbls b ps q
  exact⟨m,old _ _ e⟩
 ·obtain⟨e,n,r⟩:=I.pin p hp
  exact⟨e,new _ (G.eP p hp) n,r⟩
 ·by_cases hb:b=ea
  ·rw [hb,aC] at q
   cases q;rw [hb];exact CJz o1 o2 o3 o4
  ·rw [aO hb] at q
   exact (I.hok b u q).stay (fun _ _ _ z=>z) (fun c z=>old _ _ z) fun c xs z=>old _ _ z
end
def HB (X:Cx) (hs:List ExceptHandler) (th:Addr→Option Addr→TS):Prop := ∀(pins:List (Addr×Obj)) (s:Shared) (σ : St) (H:Hp) (D:Ends) (ea C:Addr) (dx:Option Addr) (T:Addr) (init:Option Value) (no:List Str),
 gAz X pins σ H s ea C dx T→exIn X.K C init no=true→th C dx D σ H→wpAny (model X.prog X.w) X.A (handleBy (.ref ea) X.env hs) (SP X pins D) X.xe s
def tHp (C1:Addr) (ts:TS) (th:Addr→Option Addr→TS):Addr→Option Addr→TS:=fun C dx D σ H=>if C=C1 then ts D σ H else th C dx D σ H
def tHas (C1:Addr) (i:Nat) (ts:TS) (th:Addr→Option Addr→TS):Addr→Option Addr→TS:=fun C dx D σ H=>if C=C1 then (∀ea,H ea=none→ts {nx:=fun _ _=>False,rt:=D.rt} (σ.set i (some (.ref ea))) (upd H ea (gotO ea C dx))) else th C dx D σ H
def tHn:Addr→Option Addr→TS:=fun _ _ _ _ _=>False
section
variable {X:Cx} {x n:Str} {np pos:Pos} {b0:Stmt} {suite:List Stmt} {rest:List ExceptHandler} {C1:Addr} {i1:Option Value} {no1:List Str} {ts:TS} {th:Addr→Option Addr→TS}
theorem zTz {hs:List ExceptHandler}:HB X hs tHn:=fun _ _ _ _ _ _ _ _ _ _ _ _ _ h=>h.elim
theorem kDz (hg:Gl X x) (hm:X.mg x=some (.ref C1)) (q1:exIn X.K C1 i1 no1=true) (hs:∀ea E,PSs (X.hand ea E) (b0::suite) ts) (hr:HB X rest th) (hd:(x == ("__debug__" : Str))=false:=by decide) :
  HB X (.ExceptHandler (some (.Name x np)) none (b0::suite) pos::rest) (tHp C1 ts th):=by
 intro pins s σ H D ea C dx T init no G q h;refine wpAny_handleBy_cons (codeAny_handlers_test (qA (X:=X.hand ea fun _ _=>False) (G.inv.hand ea _) hg hm ?_ hd)) (by intro z;cases z);obtain⟨nm,qn,N,bs,sn,sub,ab,col,dd,k0,k1,k2,k3,k5,mN,hC,hN,_,_⟩:=vB G.inv.kIn q;obtain⟨nm',qn',N',bs',sn',sub',ab',col',dd',k0',k1',k2',k3',k5',mN',hC',hN',_,_⟩:=vB G.inv.kIn q1;obtain⟨oe,vs,o1,o2,o3,o4,o5⟩:=G.obj;unfold tHp at h
 by_cases e:C=C1
 ·subst e
  rw [if_pos rfl] at h;obtain⟨hp,g,dr,tk,os⟩:=s;refine xYz hC o1 o2 (codeAny_handlers_suite (G.land fun h' G'=>?_));exact wpAny_mono (hs ea _ pins _ σ H D (G'.inv.hand ea _) h) (fun f s2 z=>z.unhand G.inv.ok) fun _ _ z=>z
 ·rw [if_neg e] at h
  obtain⟨hp,g,dr,tk,os⟩:=s;exact sSz hC hC' o1 o2 e (hr pins _ σ H D ea C dx T init no G q h)
theorem hb_as {i:Nat} (hg:Gl X x) (hm:X.mg x=some (.ref C1)) (q1:exIn X.K C1 i1 no1=true) (hN:X.N.Nodup) (hi:X.N[i]?=some n) (hl:X.env.kindOf n=some .local) (hfn:∀y,X.fn y=true) (hs:∀ea E,PSs (X.hand ea E) (b0::suite) ts) (hr:HB X rest th) (hd:(x == ("__debug__" : Str))=false:=by decide) :
  HB X (.ExceptHandler (some (.Name x np)) (some n) (b0::suite) pos::rest) (tHas C1 i ts th):=by
 intro pins s σ H D ea C dx T init no G q h;refine wpAny_handleBy_cons (codeAny_handlers_test (qA (X:=X.hand ea fun _ _=>False) (G.inv.hand ea _) hg hm ?_ hd)) (by intro z;cases z);obtain⟨nm,qn,N,bs,sn,sub,ab,col,dd,k0,k1,k2,k3,k5,mN,hC,hN',_,_⟩:=vB G.inv.kIn q;obtain⟨nm',qn',N',bs',sn',sub',ab',col',dd',k0',k1',k2',k3',k5',mN',hC',_,_,_⟩:=vB G.inv.kIn q1;obtain⟨oe,vs,o1,o2,o3,o4,o5⟩:=G.obj;unfold tHas at h
 by_cases e:C=C1
 ·subst e
  rw [if_pos rfl] at h;obtain⟨hp,g,dr,tk,os⟩:=s;refine xYz hC o1 o2 (codeAny_handlers_suite_as (G.land fun h' G'=>?_));refine jFz (X:=X.hand ea fun _ _=>False) (i:=i) (v := .ref ea) (G'.track.hand ea _) hN hi (.inl hl) rfl (fun s2 I2=>?_) (.inl (hfn _));refine wpAny_mono (hs ea (fun _ _=>False) pins _ _ _ _ (I2.unhand G.inv.ok |>.hand ea _) (h ea G.he)) (fun f s3 z=>?_) fun _ _ z=>False.elim z;cases f with
  | next=>obtain⟨_,_,_,z⟩:=z;exact False.elim z
  | brk=>obtain⟨_,_,_,z⟩:=z;exact False.elim z
  | cont=>obtain⟨_,_,_,z⟩:=z;exact False.elim z
  | ret u =>
   obtain⟨v,σ3,H3,I3,r3,q3⟩:=z;have I4:=I3.unhand G.inv.ok;obtain⟨m,hn,hlk⟩:=id I4.loc;refine wpAny_nameGoes_keeps hl hn (by rw [I4.ok.kind];rfl) fun h4 v4 hn4 hs4=>?_;have cne:=I4.cne;have hiσ : i < σ3.length:=by rw [I4.len];exact (List.getElem?_eq_some_iff.mp hi).1
   obtain⟨oL,_,_,hoL,_⟩:=id hn;refine⟨v,σ3.set i none,H3,⟨I4.ok,I4.os,I4.bare,⟨fun b o e n hb hx=>?_,fun b o e n hb hx=>?_,I4.base.free,fun b o e hx=>?_,I4.base.tups,I4.base.frzs,I4.base.tbls⟩,⟨_,hn4,fun j y v' e1 e2 e3=>?_⟩,fun y c e=>?_,I4.free,I4.freeC,fun p hp=>?_,fun b ob eb=>?_,by simpa using I4.len⟩,r3,q3⟩
   ·exact (hs4.2 b (Nat.ne_of_lt (Nat.lt_of_lt_of_le (Heap.lt_size e) I4.ok.above))).trans (I4.base.keep b o e n hb hx)
   ·obtain⟨sl,e1⟩:=I4.base.slot b o e n hb hx
    exact⟨sl,(hs4.2 b (Nat.ne_of_lt (Nat.lt_of_lt_of_le (Heap.lt_size e) I4.ok.above))).trans e1⟩
   ·obtain⟨o',e1⟩:=I4.base.there b o e hx
    exact⟨o',(hs4.2 b (Nat.ne_of_lt (Nat.lt_of_lt_of_le (Heap.lt_size e) I4.ok.above))).trans e1⟩
   ·by_cases hj:j=i
    ·subst hj
     rw [List.getElem?_set_self hiσ] at e2;cases e2
    ·rw [List.getElem?_set_ne (Ne.symm hj)] at e2
     obtain⟨u',r',q'⟩:=hlk j y v' e1 e2 e3;refine⟨u',r',?_⟩;rcases q' with ⟨k,e⟩ | ⟨k,c,e,z⟩
     ·refine .inl ⟨k,?_⟩
      have:y≠n:=fun e=>hj (cVz hN e1 (e ▸ hi))
      simp [this,e]
     ·exact .inr ⟨k,c,e,z.sameBut hs4 (cne y c e)⟩
   ·obtain⟨w',z⟩:=I4.cell y c e
    exact⟨w',z.sameBut hs4 (cne y c e)⟩
   ·obtain⟨e,n,ne,nf,d⟩:=I4.pin p hp
    exact⟨(hs4.2 p.1 ne).trans e,n,ne,nf,d⟩
   ·refine (I4.hok b ob eb).stay (fun c w' hc q=>(hs4.2 c ?_).trans q) (fun _ q=>q) fun _ _ q=>q
    rintro rfl;rcases hc with hc | hc
    ·rw [← hc,I4.free] at eb;cases eb
    ·rw [I4.free] at hc;cases hc
 ·rw [if_neg e] at h
  obtain⟨hp,g,dr,tk,os⟩:=s;exact sSz hC hC' o1 o2 e (hr pins _ σ H D ea C dx T init no G q h)
end
def tXf (C:Addr) (ta:TE) (f:Str):TE:=fun σ H Q=>ta σ H fun x H1=>∃ea d fs v,x = .ref ea∧H1 ea=some (gotO ea C (some d))∧H1 d=some (nsO d fs)∧d≠ea∧fs.lookup f=some v∧Q v H1
theorem pe_xf {X:Cx} {e:Expr} {f:Str} {pos:Pos} {ta:TE} {C:Addr} {init:Option Value} {no:List Str} (he:PE X e ta) (q:exIn X.K C init no=true) (hg:("__getattribute__" : Str)∈no) (hk:("__getattr__" : Str)∈no) (hf:f∈no) (hl:typeLookup (.type "Exception") f=pure none)
  (hb:attributeBase e f X.env (eval e X.env)=eval e X.env):PE X (.Attribute e f pos) (tXf C ta f):=by
 intro pins s σ H Q I h;refine yQz hb (thn (he pins s σ H _ I h) fun u s1 ⟨x,H1,I1,rx,ea,d,fs,v,ex,e1,e2,hne,lk,q1⟩=>?_);subst ex;obtain rfl:u=Value.ref ea:=rx;obtain⟨nm,qn,N,bs,sn,sub,ab,col,dd,k0,k1,k2,k3,k5,mN,hC,hN,_,hno⟩:=vB I1.kIn q;obtain⟨⟨oe,vs,x1,x2,x3,x4⟩,_,_⟩:=I1.hok ea _ e1;obtain⟨⟨mA,y1,y2,y3⟩,_,_⟩:=I1.hok d _ e2;obtain⟨hp,g,dr,tk,os⟩:=s1;obtain⟨u,hu,ru⟩:=RelO.some_of (v:=v) (o:=mA f) (by rw [← lk];exact y2 f);exact CUz hC hN (hno _ hg) (hno _ hk) (hno _ hf) hl ⟨oe,x1,x2,(by rw [x4];intro c z;cases z),.inr ⟨d,x3,hne,y1⟩⟩ hu (W.handedOut_of (nOz ru)) ⟨v,H1,I1.tok _,ru,q1⟩
def tTry (K:W.Frag) (sp:Sp) (t:TA) (th:Addr→Option Addr→TS):TS:=fun D σ H=>t σ H fun vs H1=>sp vs H1 D.rt fun cls dx H2=>∃(C:Addr) (init:Option Value) (no:List Str),cls = .ref C∧exIn K C init no=true∧th C dx D σ H2
theorem wBz {X:Cx} {k:Nat} {f:Addr} {fd:FuncData} {ps:List Str} {sp:Sp} {x:Str} {p cpos rpos pos:Pos} {e:Expr} {es:List Expr} {t:TA} {h0:ExceptHandler} {hs:List ExceptHandler} {th:Addr→Option Addr→TS}
  (F:FnOk X.prog X.w X.K X.mg X.base (CXr X.prog X.w) k f fd ps sp) (hr:Room k X.A) (hg:Gl X x) (hm:X.mg x=some (.ref f)) (hk:W.keepIn X.K (.ref f)=true) (hb:aOz X.K fd ps []) (ha:∀E,PA (X.wish E) (e::es) t) (hH:HB X (h0::hs) th)
  (hx:X.ex=[]) (hst:X.stack=X.env::X.outer) (hfr:X.env.frame=some X.env.locals)
  (hdb:(x == ("__debug__" : Str))=false:=by decide) (he:starEach (e::es) X.env=(false,eval e X.env)::starEach es X.env:=by rfl) (hpl:(backTo cpos (starEach es X.env)).any (·.1)=false:=by rfl) :
  PS X (.Try [.Return (some (.Call (.Name x p) (e::es) [] cpos)) rpos] (h0::hs) [] [] pos) (tTry X.K sp t th):=by
 intro pins s σ H D I h;refine wpAny_Try_except (wpAny_execs_cons (wpAny_Return_some ?_));refine wpAny_Call_Name_kw (qA I hg hm ?_ hdb);refine W.callWith_K (h₀ := X.base) I.ok.mod.kin hk (wpAny_mono (ha (fun _ _=>False) cpos pins s σ H _ (I.wish _) h) (fun us s1 h1=>?_) fun _ _ z=>False.elim z) he hpl;obtain⟨vs,H1,I1',r,q⟩:=h1;refine⟨I1'.kIn,?_⟩;have I1:=I1'.unwish;have hl:us.length=ps.length:=by rw [← r.length];exact F.len _ _ _ _ q
 have hb':BindsTo s1 fd ⟨us,[]⟩ (ps.zip us):=by
  have:=hb s1 us I1.kIn (by rw [List.append_nil];exact hl)
  rw [List.append_nil] at this;exact this
 refine wpAny_call (codeAny_mono (F.run X.A X.stack s1 H1 ⟨us,[]⟩ us vs D.rt _ hr I1.env0 hb' r q) fun r s' hq=>?_);cases r with
 | error e =>
  obtain⟨ea,cls,dx,H',rfl,Fl,C,init,no,rfl,q2,q3⟩:=hq;exact yKz I1 hx hst hfr Fl fun h' T G=>hH pins _ σ H' D ea C dx T init no G q2 q3
 | ok fl =>
  cases fl with
  | ret u =>
   obtain⟨v,H',I2,rv,q2⟩:=I1.after hq;exact⟨v,σ,H',I2,rv,q2⟩
  | next=>exact False.elim hq
  | brk=>exact False.elim hq
  | cont=>exact False.elim hq
end L2


namespace L2
open PySem PySem.Spec PyProof.Rows
theorem yNz {a:Int} {n:Nat} (h:a.natAbs<2 ^ n):Builtin.Int.intBits a≤n:=by
 unfold Builtin.Int.intBits;split
 ·exact Nat.zero_le _
 ·rcases Nat.eq_zero_or_pos a.natAbs with h0 | hp
  ·rw [h0,show Nat.log2 0=0 from by decide +kernel]
   rcases n with _ | n
   ·exfalso
    rename_i hz;exact hz (by simp;omega)
   ·omega
  ·exact (Nat.log2_lt (by omega)).mpr h
def yXz (i j:Int):Prop:=i.natAbs<2 ^ 1000∧j.natAbs<2 ^ 1000
def DGz (_i j:Int):Prop:=0<j∧j<2 ^ 1000
theorem yXz.ok {i j:Int} (h:yXz i j):IntMulOk i j := .of_bits (Nat.le_trans (yNz h.1) (by decide)) (Nat.le_trans (yNz h.2) (by decide))
section
variable {X:Cx}
theorem dC:OpR X (binaryOp .Mult) (rI yXz fun i j => .int (i*j)):=opI fun _ _ _ _ _ _ _ hc q=>mul_int q hc.ok
theorem kQ:OpR X (binaryOp .FloorDiv) (rI DGz fun i j => .int (i/j)):=opI fun i j _ _ _ _ _ hc q=>by
 have h1:(0:Int)<j:=hc.1;have h2:j<2 ^ 1000:=hc.2;have h3:j.natAbs<2 ^ 1000:=by
  have e:((j.natAbs:Nat):Int)=j:=by omega
  have:((j.natAbs:Nat):Int)<((2 ^ 1000:Nat):Int):=by
   rw [e];refine Int.lt_of_lt_of_le h2 (Int.le_of_eq (by decide +kernel))
  exact Int.ofNat_lt.mp this
 exact floordiv_int (by omega) (by rw [Int.fdiv_eq_ediv_of_nonneg i (by omega)];exact q) (.inl (PyProof.noPylong_of_log2 (Nat.lt_of_lt_of_le ((Nat.log2_lt (by omega)).mpr h3) (by decide))))
end
end L2


namespace L2
open PySem PySem.Spec PyProof.Rows
section
variable {X:Cx}
theorem CSz (l:Addr) (items:Array Value) (n:Nat) (b:Addr) (items2:Array Value) (n2:Nat) (dd:Option Addr) (sl:Array (Option Value)) (g0:¬(!items.isEmpty&&Builtin.List.listTooLong (items.size+items2.size))=true) (g1:items.size≤sizeLine) (g2:items.size+items2.size≤sizeLine+1) :
  Meets (Builtin.«list.extend» ⟨[.ref l,.ref b],[]⟩) (fun _ R s=>s.heap.get? l=some {cls := .type "list",dict:=none,data := .seq items n,slots := #[]}∧s.heap.get? b=some {cls := .type "tuple",dict:=dd,data := .seq items2 n2,slots:=sl}∧
   R (.ok (.ret Value.none)) {s with heap:=s.heap.update l (Obj.mapSeq fun x=>x++items2),toks:=s.toks}) :=
 .of_wp fun prog w A R s hh=>by
  obtain⟨hp,gg,dr,tk,os⟩:=s;obtain⟨e1,e2,e3⟩:=hh;have f1:=AutoSeq1.idx_int;have f2:=AutoSeq1.sub_tuple_tuple;have f3:=AutoSeq1.sub_list_list;have f4:=AutoSeq1.sub_tuple_list;have f5:=AutoSeq1.sub_list_tuple;have hz:(items++items2).size≤sizeLine+1:=by rw [Array.size_append];exact g2
  wp_walk using (wpAny_updateSeq e1 rfl (hz:=g1) (_hz':=hz)),AutoSeq1.wpAny_loadPart' e1,AutoSeq1.wpAny_loadPart' e2
  exact⟨_,rfl,e3⟩
def rExtendT:V→List V→Hp→VK→Prop:=fun x vs H Q=>∃l b xs zs,x = .ref l∧vs=[.ref b]∧H l=some (.lst xs)∧H b=some (.tup zs)∧xs.length+zs.length≤sizeLine∧Q .non (upd H l (.lst (xs++zs)))
theorem iGz:MtM X "list.extend" rExtendT:=by
 intro pins s σ H x vs v us Q I rx rv h;obtain⟨l,b,xs,zs,rfl,rfl,hH,hB,hz,q⟩:=h;cases rx;obtain⟨u,rfl,ru⟩:=rv.one;cases ru;obtain⟨z,its,n,r,hl,e⟩:=I.lstM hH;obtain⟨z2,its2,r2,ob,e2,hc,n2,hd⟩:=I.hok b _ hB;obtain⟨oc,od,odt,osl⟩:=ob;obtain rfl:oc=_:=hc;obtain rfl:odt=_:=hd;have hl2:=r2.length;have hsz:its.toArray.size+its2.toArray.size≤sizeLine:=by rw [List.size_toArray,List.size_toArray];omega
 have hlong:¬ (!its.toArray.isEmpty&&Builtin.List.listTooLong (its.toArray.size+its2.toArray.size))=true:=by
  rw [notLongL hsz,Bool.and_false];exact Bool.false_ne_true
 refine call_meets F.slot_list_extend ⟨_,e,rfl⟩ F.entry_list_extend (F.args_list_extend_2 _ _) (CSz l its.toArray n b its2.toArray n2 od osl hlong (by rw [List.size_toArray];omega) (by omega)) ⟨e,e2,?_⟩;refine⟨.non,_,I.lset (its':=its++its2) hH e (by simp) (r.append r2) ?_,rfl,q⟩;rw [List.length_append];omega
theorem uBz:MtR X "str.rstrip" (fun x xs H Q=>∃a b,x = .str a∧xs=[.str b]∧a.length≤sizeLine∧Q (.str (Txt.rstripChars a b)) H):=by
 intro pins s σ H x xs v us Q I rx rs h;obtain⟨a,b,rfl,rfl,hz,h⟩:=h;obtain⟨t,rfl⟩:=rx;cases rs with
 | cons r1 rs =>
  cases rs;obtain⟨u,rfl⟩:=r1;exact PySem.SC.rstripChars (fun t' k=>⟨.str _,H,I.tok k,⟨_,rfl⟩,h⟩) hz
theorem zHz:MtR X "str.zfill" (fun x xs H Q=>∃a i,x = .str a∧xs=[.int i]∧PadOk i=true∧Q (.str (Txt.zfill a i)) H):=by
 intro pins s σ H x xs v us Q I rx rs h;obtain⟨a,i,rfl,rfl,hp,h⟩:=h;obtain⟨t,rfl⟩:=rx;cases rs with
 | cons r1 rs =>
  cases rs;obtain⟨u,rfl⟩:=r1;exact PySem.SC.zfill hp fun t' k=>⟨.str _,H,I.tok k,⟨_,rfl⟩,h⟩
def fmtV (x:V) (y:Str):Prop:=(x = .str y∧y.length≤sizeLine)∨∃i:Int,x = .int i∧i.natAbs.log2<1920∧y=toString i
def tJ:List TE→L2.St→Hp→Str→(Str→Hp→Prop)→Prop
 | [],_,H,out,Q=>Q out H
 | t::r,σ,H,out,Q=>t σ H fun x H1=>∃y,fmtV x y∧(out++y).length≤sizeLine∧tJ r σ H1 (out++y) Q
def PJ (X:Cx) (es:List Expr) (ts:List TE):Prop := ∀(pins:List (Addr×Obj)) (s:Shared) (σ : L2.St) (H:Hp) (out:Str) (Q:Str→Hp→Prop),Inv X pins σ H s→out.length≤sizeLine→tJ ts σ H out Q→
 wpAny (model X.prog X.w) X.A (joinParts out (evalEach es X.env)) (EP X pins σ fun v H'=>∃z,v = .str z∧Q z H') X.xe s
theorem pj_nil:PJ X [] []:=fun pins s σ H out Q I hl h=>joinParts_nil ⟨.str out,H,I.tok _,⟨_,rfl⟩,out,rfl,h⟩ hl
theorem jSz {e:Expr} {es:List Expr} {t:TE} {ts:List TE} {pos:Pos} (he:PE X e t) (hr:PJ X es ts):PJ X (.FormattedValue e (-1) none pos::es) (t::ts):=by
 intro pins s σ H out Q I hl h;show wpAny _ _ (joinParts out (eval (.FormattedValue e (-1) none pos) X.env::evalEach es X.env)) _ _ s;refine joinParts_cons (FormattedValue_plain (thn (he pins s σ H _ I h) fun u s1 ⟨x,H1,I1,rx,y,hy,hlen,q⟩=>?_));rcases hy with ⟨rfl,hyl⟩ | ⟨i,rfl,hi,rfl⟩
 ·obtain⟨t1,rfl⟩:=rx
  exact formatField_str (fun t' tk=>⟨hlen,hr pins _ σ H1 _ Q (I1.tok tk) hlen q⟩) hyl
 ·obtain⟨t1,rfl⟩:=rx
  exact formatField_int_small hi ⟨hlen,hr pins _ σ H1 _ Q (I1.tok _) hlen q⟩
theorem BSz {e1 e2:Expr} {es:List Expr} {ts:List TE} {pos:Pos} (h:PJ X (e1::e2::es) ts):PE X (.JoinedStr (e1::e2::es) pos) (fun σ H Q=>tJ ts σ H Str.empty fun z H'=>Q (.str z) H'):=by
 intro pins s σ H Q I hw;refine JoinedStr_many (thn (h pins s σ H Str.empty _ I (Nat.zero_le _) hw) fun u s1 ⟨v,H1,I1,r,z,e,q⟩=>?_);subst e;exact⟨.str z,H1,I1,r,q⟩
end
end L2


namespace L2
open PySem PySem.Spec PyProof.Rows
def pickV (xs:List V) (lo hi st:Option Int):List V :=
 (sliceRange (sliceBounds lo hi st xs.length).1 (sliceBounds lo hi st xs.length).2.1 (sliceBounds lo hi st xs.length).2.2).filterMap (xs[·]?)
theorem yZ {xs:List V} {us:List Value} (r:Vals xs us):∀is:List Nat,Vals (is.filterMap (xs[·]?)) (is.filterMap (us[·]?))
 | [] => .nil
 | i::is=>by
  cases h:xs[i]? with
  | none =>
   have h2:us[i]?=none:=by
    rw [List.getElem?_eq_none_iff] at h ⊢;rw [← r.length];exact h
   rw [List.filterMap_cons_none h,List.filterMap_cons_none h2];exact yZ r is
  | some x =>
   obtain⟨u,hu,ru⟩:=r.get h;rw [List.filterMap_cons_some h,List.filterMap_cons_some hu];exact .cons ru (yZ r is)
theorem vDz {xs:List V} {us:List Value} (r:Vals xs us) (lo hi st:Option Int):Vals (pickV xs lo hi st) (slicePick us.toArray lo hi st).toList:=by
 unfold pickV slicePick;rw [r.length]
 simpa using yZ r _
def tSl3 (K:W.Frag) (te:TE) (tl th tk:TO):TE:=fun σ H Q=>te σ H fun x H1=>tl σ H1 fun l H2=>th σ H2 fun u H3=>tk σ H3 fun k H4=>∃a xs,x = .ref a∧SqL K H4 a xs∧k≠some 0∧∀p,H4 p=none→Q (.ref p) (upd H4 p (.lst (pickV xs l u k)))
theorem mOz {X:Cx} {e:Expr} {te:TE} {lo hi:Option Expr} {st:Expr} {tl th tk:TO} {pos p2:Pos} (he:PE X e te) (hl:PO X lo tl) (hu:PO X hi th) (hk:PO X (some st) tk):PE X (.Subscript e (.Slice lo hi (some st) p2) pos) (tSl3 X.K te tl th tk):=by
 intro pins s σ H Q I h;refine Subscript_ (thn (he pins s σ H _ I h) fun v s1 ⟨x,H1,I1,r1,q1⟩=>?_);refine wpAny_Slice (thn (hl pins s1 σ H1 _ I1 q1) fun vl s2 ⟨l,H2,I2,pl,q2⟩=>thn (hu pins s2 σ H2 _ I2 q2) fun vu s3 ⟨u,H3,I3,pu,q3⟩=>thn (hk pins s3 σ H3 _ I3 q3) fun vk s4 ⟨k,H4,I4,pk,q4⟩=>?_);obtain⟨a,xs,rfl,hx,h0,q⟩:=q4;cases r1;have I5:Inv X pins σ H4 {s4 with heap:=s4.heap.push {cls := .type "slice",data := .fields #[vl,vu,vk]}}:=I4.kept (t':=s4.toks) fun b ob q=>Heap.get?_push_of_some _ q;obtain⟨its,r,ht,hz⟩:=I5.list hx;have hlen:=r.length;show wpAny (model X.prog X.w) X.A (subscriptTail e (.Slice lo hi (some st) p2) (.ref a) (.ref s4.heap.objs.size)) (EP X pins σ Q) X.xe {s4 with heap:=s4.heap.push {cls := .type "slice",data := .fields #[vl,vu,vk]}};refine tail_any (ops:=[.ref a,.ref s4.heap.objs.size]) ht.isList.typeIs slot_list_getitem.lookup ?_ (by with_unfolding_all rfl);refine wpAny_getItem_list_slice ht.isList (Heap.IsSliceOf.new ..) pl pu pk h0 ?_ (by rw [List.size_toArray] <;> omega);refine⟨.ref (s4.heap.push {cls := .type "slice",data := .fields #[vl,vu,vk]}).objs.size,_,I5.laid (t':=s4.toks) (o := .lst (pickV xs l u k)) (fun b ob q=>Heap.get?_push_of_some _ q) (Nat.le_refl _) ?_,rfl,q _ (I5.hok.fresh (Nat.le_refl _))⟩;have hv:=vDz r l u k;have hs:=slicePick_size_le its.toArray l u k;refine⟨?_,(slicePick its.toArray l u k).toList,0,hv,?_⟩
 ·have e1:(slicePick its.toArray l u k).size=(slicePick its.toArray l u k).toList.length:=(Array.length_toList).symm
  have e2:its.toArray.size=its.length:=List.size_toArray ..;have e3:=hv.length;omega
 ·rw [Array.toArray_toList]
  exact Heap.get?_push_size _ rfl
end L2


namespace L2
open PySem PySem.Spec PyProof.Rows
def RawD (h:Heap) (d:Addr) (es:Array DictEntry) (ep:Nat):Prop := ∃od,h.get? d=some od∧od.ExactDict∧od.data = .dict es ep
section
variable {prog:Program} {w:World} {A:Around} {E:Value→Shared→Prop} {s:Shared}
theorem RawD.typeIs {d:Addr} {es:Array DictEntry} {ep:Nat} (x:RawD s.heap d es ep):s.TypeIs (.ref d) "dict" := let ⟨od,h1,h2,_⟩:=x;⟨od,h1,h2.1⟩
theorem RawD.at {h h':Heap} {d:Addr} {es:Array DictEntry} {ep:Nat} (x:RawD h d es ep) (k:∀u,h.get? d=some u→h'.get? d=some u):RawD h' d es ep:=let ⟨od,h1,r⟩:=x;⟨od,k _ h1,r⟩
theorem tUz {d:Addr} (hd:(d == sysModules)=false) :
  MeetsIn prog w (Builtin.«dict.values» ⟨[.ref d],[]⟩) (fun _ R s=>(∃es ep,RawD s.heap d es ep)∧R (.ok (.ret (.ref s.heap.objs.size))) {s with heap:=s.heap.push {cls := .type "dict_values",data := .fields #[.ref d]}}) :=
 .of_wp fun A R s ⟨⟨es,ep,hm⟩,h⟩=>by
  refine wpAny_bind ?_;unfold Builtin.Dict.noArgs;refine wpAny_bind (wpAny_notOrdered_dict hm.typeIs ?_);show wpAny _ _ (pure d) _ _ s;refine wpAny_pure ?_;show wpAny _ _ (Builtin.Dict.showsAll d >>= _) _ _ s;unfold Builtin.Dict.showsAll;rw [if_neg (by rw [hd];exact Bool.false_ne_true)];refine wpAny_bind (wpAny_pure ?_);exact wpAny_bind (wpAny_newObj_type (wpAny_pure ⟨_,rfl,h⟩))
theorem y6z {v d:Addr} {es:Array DictEntry} {ep:Nat} {Q:Value→Shared→Prop} (hv:s.heap.IsValuesView v d) (hm:RawD s.heap d es ep)
  (hQ:Q (.ref s.heap.objs.size) {s with heap:=s.heap.push {cls := .type "dict_valueiterator",data := .fields #[.ref d,.int 0 0,.int es.size 0,.int ep 0]}}):wpAny (model prog w) A (pyIter (.ref v)) Q E s:=by
 obtain⟨ov,hov,hcv,hdv⟩:=id hv;obtain⟨od,ho,hc,hdat⟩:=id hm;refine wpAny_pyIter_slot hv.typeIs F.slot_dict_values_iter (wpAny_call_entry F.slot_dict_values_iter hv.typeIs F.entry_dict_values_iter ?_ (F.args_dict_values_iter_1 _));unfold Builtin.«dict_values.__iter__»;refine wpAny_bind (wpAny_pure ?_);refine wpAny_bind ?_;unfold Builtin.Dict_items.dictOf;refine wpAny_bind (wpAny_field hov hdv (x := .ref d) rfl (wpAny_pure ?_));refine wpAny_bind ?_;unfold Builtin.Dict_items.newIterator;refine wpAny_bind (wpAny_dictEntries ho hdat ?_);refine wpAny_bind (wpAny_dictEpoch ho hdat ?_);have own0:Builtin.Dict_items.ownsTuple "dict_valueiterator" = false:=by decide
 simp only [own0,Bool.false_eq_true,if_false];refine wpAny_newObj_type (wpAny_pure ⟨_,rfl,"dict_valueiterator",_,⟨_,Heap.get?_push_size _ rfl,rfl⟩,F.slot_dict_valueiterator_next.lookup,?_⟩);simpa [rawInt] using hQ
theorem y7z {it d:Addr} {i ep:Nat} {es:Array DictEntry} {en:DictEntry} {Q:Option Value→Shared→Prop} (hit:s.heap.IsValIter it d i es.size ep) (hm:RawD s.heap d es ep) (hx:es[i]?=some en)
  (hQ:∀h',h'.IsValIter it d (i+1) es.size ep→Heap.SameBut it s.heap h'→Q (some en.val) {s with heap:=h'}):wpAny (model prog w) A (pyNext (.ref it)) Q E s:=by
 obtain⟨o,ho,hc,hd⟩:=id hit;obtain⟨od,hod,hcd,hdd⟩:=id hm;unfold pyNext;refine wpAny_bind (wpAny_attempt (wpAny_callSpecial?_slot (name:=Str.ofString "__next__") hit.typeIs F.slot_dict_valueiterator_next (wpAny_call_entry F.slot_dict_valueiterator_next hit.typeIs F.entry_dict_valueiterator_next ?_ (F.args_dict_valueiterator_next_1 _))));refine wpAny_bind (wpAny_pure ?_);refine wpAny_bind ?_;refine wpAny_bind ?_;refine wpAny_bind (wpAny_typeNameOfWhole_valiter hit.typeIs (wpAny_pure ?_));refine wpAny_bind (wpAny_fieldsOf ho hd ?_);have own0:Builtin.Dict_items.ownsTuple "dict_valueiterator" = false:=by decide
 simp only [own0,Bool.false_eq_true,if_false];show wpAny _ _ (if (Value.ref d == Value.none)=true then _ else _) _ _ s;rw [if_neg (show ¬ ((Value.ref d == Value.none)=true) from Bool.false_ne_true)];refine wpAny_bind (wpAny_pure ?_);refine wpAny_bind (wpAny_dictEntries hod hdd ?_);rw [if_neg (by simp)];refine wpAny_bind (wpAny_pure ?_);refine wpAny_bind (wpAny_dictEpoch hod hdd ?_);rw [if_neg (by simp)];refine wpAny_pure ?_;obtain⟨hlt,hen⟩:=Array.getElem?_eq_some_iff.mp hx;simp only [show ¬ ((i:Int)<0) from by omega,if_false,Int.toNat_natCast,Array.getElem?_eq_getElem hlt];refine wpAny_bind ?_;refine wpAny_bind (wpAny_typeNameOfWhole_valiter hit.typeIs (wpAny_pure ?_));refine wpAny_bind (wpAny_isOneOf_valiter hit.typeIs ?_);show wpAny _ _ (setField (.ref it) 1 (rawInt ((i:Int)+1)) >>= _) _ _ s;refine wpAny_bind (wpAny_setField ho hd (by simp) ?_);have again:(s.heap.update it (Obj.mapFields (·.setIfInBounds 1 (rawInt ((i:Int)+1))))).IsValIter it d (i+1) es.size ep:=⟨_,Heap.get?_update_self _ ho (Obj.isFreed_of_fields (Obj.data_mapFields hd _)),(Obj.cls_mapFields ..).trans hc,by rw [Obj.data_mapFields hd];simp [rawInt]⟩;refine wpAny_bind (wpAny_holding ?_);refine wpAny_bind (wpAny_isOneOf_valiter (s:={s with heap:=s.heap.update it (Obj.mapFields (·.setIfInBounds 1 (rawInt ((i:Int)+1))))}) again.typeIs ?_);refine wpAny_bind (wpAny_isOneOf_valiter (s:={s with heap:=s.heap.update it (Obj.mapFields (·.setIfInBounds 1 (rawInt ((i:Int)+1))))}) again.typeIs ?_);show wpAny _ _ (pure es[i].val) _ _ _;rw [hen];exact wpAny_pure (wpAny_pure ⟨_,rfl,wpAny_pure (hQ _ again (Heap.SameBut.update ..))⟩)
theorem BKz {it d:Addr} {i ep:Nat} {es:Array DictEntry} {Q:Option Value→Shared→Prop} (hh:A.handled=none) (hit:s.heap.IsValIter it d i es.size ep) (hm:RawD s.heap d es ep) (hge:es.size≤i)
  (hQ:∀h',Heap.ExtBut it s.heap h'→Q none {s with heap:=h'}):wpAny (model prog w) A (pyNext (.ref it)) Q E s:=by
 obtain⟨o,ho,hc,hd⟩:=id hit;obtain⟨od,hod,hcd,hdd⟩:=id hm;unfold pyNext;refine wpAny_bind (wpAny_attempt (wpAny_callSpecial?_slot (name:=Str.ofString "__next__") hit.typeIs F.slot_dict_valueiterator_next (wpAny_call_entry F.slot_dict_valueiterator_next hit.typeIs F.entry_dict_valueiterator_next ?_ (F.args_dict_valueiterator_next_1 _))));refine wpAny_bind (wpAny_pure ?_);refine wpAny_bind ?_;refine wpAny_bind ?_;refine wpAny_bind (wpAny_typeNameOfWhole_valiter hit.typeIs (wpAny_pure ?_));refine wpAny_bind (wpAny_fieldsOf ho hd ?_);have own0:Builtin.Dict_items.ownsTuple "dict_valueiterator" = false:=by decide
 simp only [own0,Bool.false_eq_true,if_false];show wpAny _ _ (if (Value.ref d == Value.none)=true then _ else _) _ _ s;rw [if_neg (show ¬ ((Value.ref d == Value.none)=true) from Bool.false_ne_true)];refine wpAny_bind (wpAny_pure ?_);refine wpAny_bind (wpAny_dictEntries hod hdd ?_);rw [if_neg (by simp)];refine wpAny_bind (wpAny_pure ?_);refine wpAny_bind (wpAny_dictEpoch hod hdd ?_);rw [if_neg (by simp)];refine wpAny_pure ?_;simp only [show ¬ ((i:Int)<0) from by omega,if_false,Int.toNat_natCast,Array.getElem?_eq_none hge];refine wpAny_bind ?_;refine wpAny_bind (wpAny_typeNameOfWhole_valiter hit.typeIs (wpAny_pure ?_));show wpAny _ _ (setField (.ref it) 0 .none >>= _) _ _ s;refine wpAny_bind (wpAny_setField ho hd (by simp) ?_);show wpAny _ _ (newExc (.type "StopIteration") [] >>= _) _ _ _;refine wpAny_bind ?_;simp only [newExc,newTuple];refine wpAny_bind (wpAny_newObj_type ?_ (by size_fits));refine wpAny_bind (m:=firstArgMember _ _) (wpAny_of_eq (a:=Value.none) (by first | rfl | (simp only [firstArgMember];rfl)) ?_);refine wpAny_newObj_type ?_ (by size_fits);simp only [raiseNew];refine wpAny_bind (wpAny_handled ?_);rw [show A.in1.handled=none from hh];refine wpAny_bind (wpAny_pure (wpAny_throw ?_));refine wpAny_bind (wpAny_isInstance (T := "StopIteration") (b:=true) ⟨_,Heap.get?_push_size _ rfl,rfl⟩ isSubtype_stop ?_);exact wpAny_pure (hQ _ (((Heap.SameBut.update ..).extBut.push _).push _))
theorem v7z (hh:A.handled=none) (I d:Addr) (hne:d≠I) (es:Array DictEntry) (ep:Nat) :
  Walks prog w A I [I,d] [I] es.size (fun i v=>∃en,es[i]?=some en∧v=en.val) (fun i h=>h.IsValIter I d i es.size ep∧RawD h d es ep) where
 sub:=fun b hb=>by simp at hb;simp [hb]
 frame:=fun _ _ _ st hk=>⟨st.1.at fun o e=>hk I (by simp) o e,st.2.at fun o e=>hk d (by simp) o e⟩
 item:=fun i s Q E hi st hQ=>by
  refine y7z st.1 st.2 (Array.getElem?_eq_getElem hi) fun h' hit' hs'=>?_;exact hQ _ h' s.toks ⟨_,Array.getElem?_eq_getElem hi,rfl⟩ ⟨hit',st.2.at fun u e=>hs'.extBut d u hne e⟩ fun b o hb e=>hs'.extBut b o (fun h=>hb (by simp [h])) e
 done:=fun s Q E st hQ=>BKz hh st.1 st.2 (Nat.le_refl _) fun h' he'=>hQ h' s.toks fun b o hb e=>he' b o (fun h=>hb (by simp [h])) e
 self:=fun _ _ _ _ st hQ=>wpAny_pyIter_valiter st.1 hQ
theorem BJz {r d:Addr} {es:Array DictEntry} {ep:Nat}:PySem.W.KdlSrc prog w "dict_values" r d es.size (fun i v=>∃en,es[i]?=some en∧v=en.val) (fun h=>h.IsValuesView r d∧RawD h d es ep) where
 type:=fun _ hm=>hm.1.typeIs
 there:=fun _ hm=>⟨let ⟨_,ho,_⟩:=hm.1;Heap.lt_size ho,let ⟨_,ho,_⟩:=hm.2;Heap.lt_size ho⟩
 keep:=fun _ _ hm hk=>⟨let ⟨o,ho,x⟩:=hm.1;⟨o,hk r (.inl rfl) o ho,x⟩,hm.2.at fun o e=>hk d (.inr rfl) o e⟩
 notList:=by decide
 notTuple:=by decide
 hint:=fun _ _ _ _ hm hq=>W.kdl_hint_values hm.1.typeIs hq
 iter:=fun _ _ hh hm=>⟨_,_,(fun _ _ hq=>y6z hm.1 hm.2 hq),v7z hh _ d (let ⟨_,ho,_⟩:=hm.2;Nat.ne_of_lt (Heap.lt_size ho)) es ep,⟨⟨_,Heap.get?_push_size _ rfl,rfl,rfl⟩,hm.2.at fun _ e=>Heap.get?_push_of_some _ e⟩⟩
end
theorem rAz {F:List Key×V→List Key×Addr×Value→Prop}:∀{kvs:List (List Key×V)} {xs:List (List Key×Addr×Value)},Paired (fun p q=>p.1=q.1∧F p q∧RelV p.2 q.2.2) kvs xs→Vals (kvs.map (·.2)) (xs.map fun x=>x.2.2)
 | _,_,.nil => .nil
 | _,_,.cons r t => .cons r.2.2 (rAz t)
def tListVals (td:TE):TE:=fun σ H Q=>td σ H fun x H1=>∃(d:Addr) (kvs:List (List Key×V)),x = .ref d∧H1 d=some (.dT kvs)∧∀l,H1 l=none→Q (.ref l) (upd H1 l (.lst (kvs.map (·.2))))
theorem pAz {X:Cx} {e:Expr} {td:TE} {p apos cpos pos:Pos} (hc:X.calm=true) (hg:Gl X "list") (hm:X.mg "list" = none) (he:PE X e td)
  (hbase:attributeBase e "values" X.env (eval e X.env)=eval e X.env:=by rfl) (hline:(apos.endLine == cpos.line)=true:=by rfl)
  (hs:starEach [.Call (.Attribute e "values" apos) [] [] cpos] X.env=(false,eval (.Call (.Attribute e "values" apos) [] [] cpos) X.env)::starEach [] X.env:=by rfl) :
  PE X (.Call (.Name "list" p) [.Call (.Attribute e "values" apos) [] [] cpos] [] pos) (tListVals td):=by
 intro pins s σ H Q I h;refine wpAny_Call_Name_kw (iIz I hg hm (show bootBuiltins "list" = some (.type "list") from by decide +kernel) ?_ (by decide) (by decide));refine PyProof.Rows.callWith_type1 ?_ hs rfl;rw [hs];refine Calls.spliced_cons ?_;refine wpAny_Call_method (T := "dict") (id := "dict.values") hbase rfl hline F.plainAttrs_dict F.slot_dict_values F.type_dict_values (thn (he pins s σ H _ I h) fun u s1 ⟨x,H1,I1,rx,d,kvs,ex,hd,q⟩=>?_);subst ex;obtain rfl:u=Value.ref d:=rx;obtain⟨hz,hsys,xs,pr,o,es,ep,h1,h2,h3,h4,_⟩:=I1.hok d _ hd;have hraw:RawD s1.heap d es ep:=⟨o,h1,h2,h3⟩;have hlen:es.size=kvs.length:=by
  have l1:es.size=xs.length:=size_of_entries h4;have l2:kvs.length=xs.length:=Paired.length pr;omega
 refine⟨hraw.typeIs,?_,?_⟩
 ·intro b hb;cases hb;exact⟨o,h1,h2.2.1⟩
 ·show wpAny _ _ (callWith cpos (.builtin "dict.values") [.ref d] [] []) _ X.xe s1
  refine method_meetsIn F.slot_dict_values F.entry_dict_values rfl (PySem.evalArgs_none ⟨rfl,hraw.typeIs,F.args_dict_values_1 _,_,tUz hsys,⟨_,_,hraw⟩,?_⟩);have I2:Inv X pins σ H1 {s1 with heap:=s1.heap.push {cls := .type "dict_values",data := .fields #[.ref d]}}:=I1.kept (t':=s1.toks) fun b ob q=>Heap.get?_push_of_some _ q;refine Calls.spliced_nil ?_;refine W.kdl_call BJz (I2.ok.hd hc) ⟨⟨_,Heap.get?_push_size _ rfl,rfl,rfl⟩,hraw.at fun _ e=>Heap.get?_push_of_some _ e⟩ (by omega) fun h' tk acc' c' hk hL hit=>?_;have hacc:acc'.toList=xs.map fun x=>x.2.2:=by
   refine List.ext_getElem? fun j=>?_;rw [List.getElem?_map,Array.getElem?_toList];have hen:=entry_at h4 j;cases hx:xs[j]? with
   | none =>
    rw [hx] at hen;have hj:es.size≤j:=by
     have:xs.length≤j:=List.getElem?_eq_none_iff.mp hx
     have l1:es.size=xs.length:=size_of_entries h4;omega
    rw [Array.getElem?_eq_none (by rw [hit.1];exact hj)];rfl
   | some x =>
    rw [hx] at hen;have hj:j<acc'.size:=by
     rw [hit.1];exact (Array.getElem?_eq_some_iff.mp hen).1
    obtain⟨en,e1,e2⟩:=hit.2 j acc'[j] (Array.getElem?_eq_getElem hj);rw [hen] at e1;cases e1;rw [Array.getElem?_eq_getElem hj,e2];rfl
  have hvals:Vals (kvs.map (·.2)) (xs.map fun x=>x.2.2):=rAz (F:=fun p q=>H1 q.2.1=some (.tup (p.1.map kV))) pr;refine⟨.ref _,_,I2.laid (t':=tk) (o := .lst (kvs.map (·.2))) hk (Nat.le_refl _) ⟨by rw [List.length_map];exact hz,xs.map fun x=>x.2.2,c',hvals,?_⟩,rfl,q _ (I2.hok.fresh (Nat.le_refl _))⟩;rw [hL,← hacc,Array.toArray_toList]
end L2


namespace L2
open PySem PySem.Spec PyProof.Rows
abbrev TKey:=List Key×Addr×Value
def mergedH (acc rest:List TKey):List TKey:=rest.foldl (fun acc x=>storedH acc x.1 x.2.1 x.2.2) acc
def mergeT (kvs more:List (List Key×V)):List (List Key×V):=more.foldl (fun acc kv=>putK acc kv.1 kv.2) kvs
theorem pTz {acc:List TKey} {k:List Key} {a:Addr} {v:Value} {x:TKey} (h:x∈storedH acc k a v):x.2.1=a∨∃y∈acc,x.2.1=y.2.1:=by
 unfold storedH at h;split at h
 ·obtain⟨y,hy,rfl⟩:=List.mem_map.mp h
  refine .inr ⟨y,hy,?_⟩;unfold putAt;split <;> rfl
 ·rcases List.mem_append.mp h with h | h
  ·exact .inr ⟨x,h,rfl⟩
  ·rw [List.mem_singleton.mp h];exact .inl rfl
theorem pVz (acc:List TKey) (k:List Key) (a:Addr) (v:Value):(storedH acc k a v).length≤acc.length+1:=by
 unfold storedH;split
 ·rw [List.length_map];omega
 ·rw [List.length_append,List.length_singleton];omega
theorem KT.merge {H:Hp}:∀{more:List (List Key×V)} {rs:List TKey} {kvs:List (List Key×V)} {xs:List TKey},KT H more rs→KT H kvs xs→KT H (mergeT kvs more) (mergedH xs rs):=by
 intro more rs kvs xs r;unfold KT at r
 induction r generalizing kvs xs with
 | nil=>intro h;exact h
 | @cons p q ps qs h t ih =>
  intro z;obtain⟨h1,h2,h3⟩:=h;refine ih (kvs:=putK kvs p.1 p.2) (xs:=storedH xs q.1 q.2.1 q.2.2) ?_;rw [← h1];exact z.put p.1 h2 h3
theorem iHz:∀(more kvs:List (List Key×V)),(mergeT kvs more).length≤kvs.length+more.length
 | [],kvs=>Nat.le_add_right _ _
 | p::r,kvs=>by
  have h1:=iHz r (putK kvs p.1 p.2);have h2:=wC kvs p.1 p.2;show (mergeT (putK kvs p.1 p.2) r).length≤_;rw [List.length_cons];omega
section
variable {prog:Program} {w:World} {A:Around} {E:Value→Shared→Prop}
theorem yK {h h':Heap} {k:List Key} {a:Addr} (x:(tupleKind (mixKind prog w)).is h k a) (e:∀o,h.get? a=some o→h'.get? a=some o):(tupleKind (mixKind prog w)).is h' k a:=let ⟨o,its,n,h1,r⟩:=x;⟨o,its,n,e _ h1,r⟩
theorem jCz {h h':Heap} {S:Addr} {acc:List TKey} (x:h.DictOfH (tupleKind (mixKind prog w)) S acc) (e:∀o,h.get? S=some o→h'.get? S=some o) (ea:∀y∈acc,∀o,h.get? y.2.1=some o→h'.get? y.2.1=some o):h'.DictOfH (tupleKind (mixKind prog w)) S acc :=
 let ⟨o,es,ep,h1,h2,h3,h4,h5,h6⟩:=x;⟨o,es,ep,e _ h1,h2,h3,h4,fun y hy=>yK (h5 y hy) (ea y hy),h6⟩
theorem lAz {R:Result→Shared→Prop} {S I l:Addr} {items:Array Value} {res:Value} (hh:A.handled=none) (hu:A.units+1<cLine) (hlI:l≠I) (hSI:S≠I) (hSl:S≠l) :
  ∀(rest:List TKey) (i:Nat) (acc:List TKey) (ix:Int) (t:Tok) (s:Shared),items.size=i+rest.length→acc.length+rest.length≤sizeLine→
   (∀(j:Nat) (q:TKey),rest[j]?=some q→∃(b:Addr),items[i+j]?=some (.ref b)∧b≠S∧b≠I∧IsTup s.heap b #[.ref q.2.1,q.2.2]∧(tupleKind (mixKind prog w)).is s.heap q.1 q.2.1∧q.2.1≠S∧q.2.1≠I)→
   s.heap.IsListIter I l i→s.heap.IsList l items→s.heap.DictOfH (tupleKind (mixKind prog w)) S acc→(∀y∈acc,y.2.1≠I∧y.2.1≠S)→
   (∀h' tk,h'.DictOfH (tupleKind (mixKind prog w)) S (mergedH acc rest)→(∀b o,b≠S→b≠I→s.heap.get? b=some o→h'.get? b=some o)→R (.ok (.ret res)) {s with heap:=h',toks:=tk})→
   codeAny (model prog w) A (.builtin "dict.update.loop" ⟨[.ref S,.ref I,.int ix t,res],[]⟩) R s
 | [],i,acc,ix,t,s,hsz,hln,ht,hit,hl,hm,ha,hR=>by
  refine codeAny_builtin rFz ?_;rw [Around.under_plainId xB _];show wpAny _ A.in1 (pyNext (.ref I) >>= _) _ _ s;refine wpAny_bind (wpAny_pyNext_list_end (A:=A.in1) hh hit hl (by first | exact Array.getElem?_eq_none (Nat.le_of_eq hsz) | (simp at hsz;simp;omega)) fun h' he=>?_);show wpAny _ A.in1 (Builtin.Dict.addKeywords S [] >>= _) _ _ _;refine wpAny_bind (wpAny_pure (wpAny_pure ?_));exact hR h' s.toks (jCz hm (fun o e=>he S o hSI e) fun y hy o e=>he _ o (ha y hy).1 e) fun b o _ hb e=>he b o hb e
 | q::rest,i,acc,ix,t,s,hsz,hln,ht,hit,hl,hm,ha,hR=>by
  obtain⟨b,hb,hbS,hbI,htup,hk,hqS,hqI⟩:=ht 0 q rfl;rw [List.length_cons] at hsz hln;refine codeAny_builtin rFz ?_;rw [Around.under_plainId xB _];show wpAny _ A.in1 (pyNext (.ref I) >>= _) _ _ s;refine wpAny_bind (wpAny_pyNext_list_item (x := .ref b) hit hl (by simpa using hb) fun h1 hit1 hs1=>?_);have ht1:IsTup h1 b #[.ref q.2.1,q.2.2]:=htup.extBut hs1.extBut hbI;have hl1:h1.IsList l items:=hl.extBut hs1.extBut hlI;have hm1:h1.DictOfH (tupleKind (mixKind prog w)) S acc:=jCz hm (fun o e=>hs1.extBut S o hSI e) fun y hy o e=>hs1.extBut _ o (ha y hy).1 e;have hk1:(tupleKind (mixKind prog w)).is h1 q.1 q.2.1:=yK hk fun o e=>hs1.extBut _ o hqI e;obtain⟨o,ho,hc,n,hd⟩:=id ht1;show wpAny _ A.in1 (holding [Value.ref b] _ >>= _) _ _ _;refine wpAny_bind (wpAny_holding ?_);refine wpAny_bind (wpAny_tryCatch ?_);unfold Builtin.Dict.pairItems;refine wpAny_bind (wpAny_typeOf (T := "tuple") ⟨o,ho,hc⟩ ?_);rw [if_pos (by first | decide | rfl | simp)];refine wpAny_bind (wpAny_seqItems ho hd (wpAny_pure ?_));show wpAny _ A.in1 (holding [Value.ref q.2.1,q.2.2] (dictSet S (.ref q.2.1) q.2.2)) _ _ _;refine wpAny_holding (wpAny_dictSet_heap (k:=q.1) (tupleKind_room_in1 hu) hk1 hm1 (fun h2 hm2 hs2=>?_) (by omega));refine wpAny_pure ⟨plainId_quiet xB _,lAz (items:=items) hh hu hlI hSI hSl rest (i+1) (storedH acc q.1 q.2.1 q.2.2) (ix+1) 0 _ (show items.size=i+1+rest.length by omega) ?_ (fun j q' e=>?_) ?_ ?_ hm2 (fun y hy=>?_) fun h' tk hd' k=>?_⟩
  ·have z:=pVz acc q.1 q.2.1 q.2.2
   omega
  ·obtain⟨b',hb',hbS',hbI',htup',hk',hqS',hqI'⟩:=ht (j+1) q' (by simpa using e)
   refine⟨b',?_,hbS',hbI',(htup'.extBut hs1.extBut hbI').extBut hs2.extBut hbS',yK (yK hk' fun o e=>hs1.extBut _ o hqI' e) fun o e=>hs2.extBut _ o hqS' e,hqS',hqI'⟩;rw [show i+1+j=i+(j+1) by omega];exact hb'
  ·exact hit1.at fun o' e=>hs2.extBut I o' (Ne.symm hSI) e
  ·exact hl1.extBut hs2.extBut (Ne.symm hSl)
  ·rcases pTz hy with z | ⟨y',hy',z⟩
   ·rw [z];exact⟨hqI,hqS⟩
   ·rw [z];exact ha y' hy'
  ·exact hR h' tk hd' fun c oc h3 h4 e=>k c oc h3 h4 (hs2.extBut c oc h3 (hs1.extBut c oc h4 e))
theorem cIz {s:Shared} {l:Addr} {ol:Obj} {items:Array Value} {n:Nat} {prs:List TKey} {Q:Value→Shared→Prop} (hh:A.handled=none) (hu:A.units+3<cLine) (hl:s.heap.get? l=some ol) (hc:ol.cls = .type "list") (hd:ol.dict=none)
  (hdat:ol.data = .seq items n) (hsz:items.size=prs.length) (hln:prs.length≤sizeLine)
  (ht:∀(j:Nat) (q:TKey),prs[j]?=some q→∃(b:Addr),items[j]?=some (.ref b)∧IsTup s.heap b #[.ref q.2.1,q.2.2]∧(tupleKind (mixKind prog w)).is s.heap q.1 q.2.1)
  (h:∀h' tk,h'.DictOfH (tupleKind (mixKind prog w)) s.heap.objs.size (mergedH [] prs)→(∀b o,s.heap.get? b=some o→h'.get? b=some o)→Q (.ref s.heap.objs.size) {s with heap:=h',toks:=tk}) :
  wpAny (model prog w) A (call (.type "dict") [.ref l]) Q E s:=by
 refine callType_codes (Q₁ := fun obj s₁ => obj = .ref s.heap.objs.size∧s₁ = {s with heap:=s.heap.push {cls := .type "dict",data := .dict #[]}}) PySem.F.kt_called_dict (PySem.F.kt_typeCall_dict_1 _) PySem.F.entry_dict_init (kt_code_dict_new _ ⟨rfl,rfl⟩) ?_;rintro obj s₁ ⟨rfl,rfl⟩;have hnew:(s.heap.push {cls := .type "dict",data := .dict #[]}).DictOfH (tupleKind (mixKind prog w)) s.heap.objs.size []:=Heap.DictOfH.new s.heap;have k0:∀b o,s.heap.get? b=some o→(s.heap.push {cls := .type "dict",data := .dict #[]}).get? b=some o:=fun b o e=>Heap.get?_push_of_some _ e;have hT:({s with heap:=s.heap.push {cls := .type "dict",data := .dict #[]}}:Shared).TypeIs (.ref s.heap.objs.size) "dict" := hnew.typeIs;refine⟨hT,PySem.F.args_dict_init_2 _ _,?_⟩;unfold Builtin.«dict.__init__»;refine wpAny_bind ?_;unfold Builtin.Dict.selfAndRest;refine wpAny_bind (wpAny_notOrdered_dict hT ?_);show wpAny _ _ (pure (s.heap.objs.size,[Value.ref l])) _ _ _;refine wpAny_pure ?_;show wpAny _ _ (Builtin.Dict.updateFrom "dict.__init__" s.heap.objs.size (.ref l) [] .none) _ _ _;unfold Builtin.Dict.updateFrom;refine wpAny_bind (wpAny_typeOf (T := "list") ⟨ol,k0 _ _ hl,hc⟩ ?_);rw [if_pos (by first | decide | rfl | simp)];refine wpAny_bind (wTz (k0 _ _ hl) hc hdat hd hh fun h1 tk1 hk1=>?_);rw [if_pos (show (none:Option Value).isNone=true from rfl)];refine wpAny_bind (wpAny_rule ?_);have hl1:h1.IsList l items:=⟨ol,hk1 _ _ (k0 _ _ hl),hc,n,hdat⟩;have hS1:s.heap.objs.size<h1.objs.size:=by
  have e:(s.heap.push {cls := .type "dict",data := .dict #[]}).get? s.heap.objs.size=some {cls := .type "dict",data := .dict #[]}:=Heap.get?_push_size _ rfl;exact Heap.lt_size (hk1 _ _ e)
 refine wpAny_bind (wpAny_pyIter_list hl1 ?_);have k2:∀b o,h1.get? b=some o→(h1.push {cls := .type "list_iterator",data := .fields #[.ref l,.int 0 0]}).get? b=some o:=fun b o e=>Heap.get?_push_of_some _ e;have hlt:l<s.heap.objs.size:=Heap.lt_size hl;have key:=lAz (prog:=prog) (w:=w) (A:=A.in1) (R:=wants (fun r s₂ => r = .none∧Q (.ref s.heap.objs.size) s₂) E) (S:=s.heap.objs.size) (I:=h1.objs.size) (l:=l) (items:=items) (res:=Value.none) hh (by show A.units+1+1<cLine;omega)
  (Nat.ne_of_lt (Nat.lt_trans hlt hS1)) (Nat.ne_of_lt hS1) (Nat.ne_of_gt hlt) prs 0 [] 0 0
  {s with heap:=h1.push {cls := .type "list_iterator",data := .fields #[.ref l,.int 0 0]},toks:=tk1} (by rw [hsz,Nat.zero_add]) (by rw [List.length_nil,Nat.zero_add];exact hln)
  (fun j q e=>by
   obtain⟨b,e1,e2,e3⟩:=ht j q e;have hb:b<s.heap.objs.size:=e2.lt;have hq:q.2.1<s.heap.objs.size:=let ⟨_,_,_,z,_⟩:=e3;Heap.lt_size z;exact⟨b,by rw [Nat.zero_add];exact e1,Nat.ne_of_lt hb,Nat.ne_of_lt (Nat.lt_trans hb hS1),e2.keeps fun c o z=>k2 _ _ (hk1 _ _ (k0 _ _ z)),yK e3 fun o z=>k2 _ _ (hk1 _ _ (k0 _ _ z)),Nat.ne_of_lt hq,Nat.ne_of_lt (Nat.lt_trans hq hS1)⟩)
  ⟨_,Heap.get?_push_size _ rfl,rfl,rfl⟩ (hl1.at fun o e=>k2 _ _ e) (jCz hnew (fun o e=>k2 _ _ (hk1 _ _ e)) fun y hy=>nomatch hy) (fun y hy=>nomatch hy)
  (fun h' tk hd' k=>⟨rfl,h h' tk hd' fun b o e=>k b o (Nat.ne_of_lt (Heap.lt_size e)) (Nat.ne_of_lt (Nat.lt_trans (Heap.lt_size e) hS1)) (k2 _ _ (hk1 _ _ (k0 _ _ e)))⟩)
 first
  | exact wpAny_pure ⟨plainId_quiet xB _,key⟩
  | exact wpAny_bind (wpAny_pure (wpAny_pure ⟨plainId_quiet xB _,key⟩))
end
section
variable {X:Cx}
theorem mPz {pins:List (Addr×Obj)} {σ : St} {H:Hp} {s:Shared} (I:Inv X pins σ H s):∀{ps:List Addr} {kvs:List (List Key×V)},Paired (fun p kv=>∃b,SqT X.K H p [.ref b,kv.2]∧H b=some (.tup (kv.1.map kV))) ps kvs→
  ∃prs:List TKey,KT H kvs prs∧prs.length=ps.length∧∀(j:Nat) (q:TKey),prs[j]?=some q→∃(b:Addr),ps[j]?=some b∧IsTup s.heap b #[.ref q.2.1,q.2.2]∧(tupleKind (mixKind X.prog X.w)).is s.heap q.1 q.2.1
 | _,_,.nil=>⟨[],.nil,rfl,fun j q e=>by simp at e⟩
 | _,_,.cons (a:=p) (b:=kv) h t=>by
  obtain⟨prs,r,hl,hp⟩:=mPz I t;obtain⟨b,h,hb⟩:=h;obtain⟨its,rv,ht,_⟩:=I.tuple h;obtain⟨u,y,ei,ru,ry⟩:=vals2 rv;subst ei;cases ru;refine⟨(kv.1,b,y)::prs,.cons ⟨rfl,hb,ry⟩ r,by rw [List.length_cons,List.length_cons,hl],fun j q e=>?_⟩;cases j with
  | zero =>
   have e':(kv.1,b,y)=q:=Option.some.inj e;subst e';exact⟨p,rfl,ht,fCz I.hok hb⟩
  | succ j =>
   obtain⟨b',e1,e2,e3⟩:=hp j q (by simpa using e);exact⟨b',by simpa using e1,e2,e3⟩
theorem uUz (hcalm:X.calm=true) (hu:X.A.units+3<cLine):hKz X (.type "dict") (fun xs H Q=>∃(a:Addr) (ps:List Addr) (kvs:List (List Key×V)),xs=[.ref a]∧SqL X.K H a (ps.map V.ref)∧Paired (fun p kv=>∃b,SqT X.K H p [.ref b,kv.2]∧H b=some (.tup (kv.1.map kV))) ps kvs∧
  ∀p,H p=none→Q (.ref p) (upd H p (.dT (mergeT [] kvs)))):=by
 intro pins s σ H xs us Q I r q;obtain⟨a,ps,kvs,ex,hq,hp,q⟩:=q;subst ex;obtain⟨u,eu,rx⟩:=vals1 r;subst eu;cases rx;obtain⟨its,rv,pl,hz⟩:=I.list hq;have ei:=v6z rv;subst ei;rw [List.length_map] at hz;obtain⟨prs,rel,hl,hpr⟩:=mPz I hp;obtain⟨o,n,ho,hc,hd,hdat⟩:=pl;refine cIz (prs:=prs) (I.ok.hd hcalm) hu ho hc hd hdat (by simp [hl]) (by rw [hl];exact hz) (fun j q' e=>?_) fun h' tk hd' k=>?_
 ·obtain⟨b,e1,e2,e3⟩:=hpr j q' e
  exact⟨b,by simp [e1],e2,e3⟩
 ·have hm:(s.heap.objs.size == sysModules)=false:=beq_eq_false_iff_ne.mpr (Nat.ne_of_gt I.big)
  have hlen:(mergeT [] kvs).length≤sizeLine:=by
   refine Nat.le_trans (iHz kvs []) ?_;rw [List.length_nil,Nat.zero_add,Paired.length rel,hl];exact hz
  obtain⟨q',es,ep,hq',h2,h3,h4,_,h5⟩:=hd';have hfree:=I.hok.fresh (Nat.le_refl s.heap.objs.size);refine⟨.ref s.heap.objs.size,upd H s.heap.objs.size (.dT (mergeT [] kvs)),I.laid (t':=tk) k (Nat.le_refl _) (show eY X.prog X.w _ _ _ (.dT (mergeT [] kvs)) from ⟨hlen,hm,mergedH [] prs,(KT.merge rel .nil).keeps fun c ys ec=>?_,q',es,ep,hq',h2,h3,h4,h5⟩),rfl,q _ hfree⟩;rw [aO (aX ec hfree)];exact ec
end
end L2


namespace L2
open PySem PySem.Spec PyProof.Rows
theorem hu3_of {A:Around} {k:Nat} (hr:Room k A):A.units+3<cLine:=Nat.lt_of_le_of_lt (Nat.add_le_add_left (by decide:3≤64) _) hr.units
theorem BPz {X:Cx} {K:W.Frag} {es:List Expr} {k:Nat} {t:TGs} {n:Nat} {pos:Pos} (hc:X.calm=true) (h:PGs X es t)
  (hn:(assignEach es X.env).length=n:=by rfl) (hst:(assignEach es X.env).findIdx? (·.1)=none:=by rfl) (hK:X.K=K:=by rfl):PG X (.Tuple es k pos) (gTup K n t):=by
 subst hK;exact AMz hc h hn hst
end L2


namespace Ts
open Tide
def cur (bs:Bytes) (p:Nat):Cur:=⟨bs.drop p,p⟩
theorem eV (bs:Bytes) (p:Nat):(cur bs p).next=bs[p]?:=by
 show (bs.drop p).head?=bs[p]?;rw [List.head?_drop]
theorem rM (bs:Bytes) (p:Nat):(cur bs p).on=cur bs (p+1):=by
 show (⟨(bs.drop p).drop 1,p+1⟩:Cur)=⟨bs.drop (p+1),p+1⟩;rw [List.drop_drop]
theorem iRz (bs:Bytes) (p:Nat):(cur bs p).at_=p:=rfl
theorem CXz {bs:Bytes} {p q:Nat} (h:cur bs p=cur bs q):p=q:=congrArg Cur.at_ h
theorem tR (f:UInt8→Bool) (bs:Bytes) (p:Nat):nextIs f (cur bs p)=(match bs[p]? with | some x=>f x | none=>false):=by
 unfold nextIs;rw [eV];rfl
theorem cS {f:UInt8→Bool} {bs:Bytes} {p:Nat} {x:UInt8} (h:bs[p]?=some x):nextIs f (cur bs p)=f x:=by
 rw [tR,h]
theorem gG {f:UInt8→Bool} {bs:Bytes} {p:Nat} (h:bs[p]?=none):nextIs f (cur bs p)=false:=by
 rw [tR,h]
theorem bK {f:UInt8→Bool} {bs:Bytes} {p:Nat} (h:nextIs f (cur bs p)=true):∃x,bs[p]?=some x∧f x=true:=by
 rw [tR] at h;cases e:bs[p]? with
 | none=>rw [e] at h;cases h
 | some x=>rw [e] at h;exact⟨x,rfl,h⟩
theorem fZ {bs:Bytes} {p:Nat} {x:UInt8} (h:bs[p]?=some x):p<bs.length:=(List.getElem?_eq_some_iff.mp h).1
theorem kT (x:UInt8) (r:Bytes) (bs:Bytes) (p:Nat):lit (x::r) (cur bs p)=if bs[p]?=some x then lit r (cur bs (p+1)) else .error p:=by
 show (if (cur bs p).next=some x then lit r (cur bs p).on else .error (cur bs p).at_)=_;rw [eV,rM,iRz]
theorem wXz:∀(w:Bytes) {bs:Bytes} {p:Nat} {c:Cur},lit w (cur bs p) = .ok c→c=cur bs (p+w.length)∧(∀i x,w[i]?=some x→bs[p+i]?=some x)∧p+w.length≤max bs.length p
 | [],bs,p,c,h=>by
  have e:cur bs p=c:=by
   have h2:(Except.ok (cur bs p):Except Nat Cur) = .ok c:=h;injection h2
  refine⟨e.symm,fun i x q=>?_,by simp;omega⟩;simp at q
 | y::r,bs,p,c,h=>by
  rw [kT] at h
  by_cases hx:bs[p]?=some y
  ·rw [if_pos hx] at h
   obtain⟨h1,h2,h3⟩:=wXz r h;have hl:=fZ hx;refine⟨by rw [h1,List.length_cons];congr 1;omega,fun i x q=>?_,by rw [List.length_cons];omega⟩;cases i with
   | zero=>simp at q;subst q;exact hx
   | succ i =>
    have:=h2 i x (by simpa using q)
    rw [show p+(i+1)=p+1+i by omega];exact this
  ·rw [if_neg hx] at h
   cases h
theorem gA (bs:Bytes) (p:Nat):blank (cur bs p)=if bs[p]?=some 32 then .ok (cur bs (p+1)) else .error p:=by
 unfold blank;rw [kT];rfl
theorem vXz (P:UInt8→Bool) (c:Cur):some_ P 0 c=([],c):=rfl
theorem xI {P:UInt8→Bool} {n:Nat} {bs:Bytes} {p:Nat} {x:UInt8} (h:bs[p]?=some x) (hx:P x=true) :
  some_ P (n+1) (cur bs p)=(x::(some_ P n (cur bs (p+1))).1,(some_ P n (cur bs (p+1))).2):=by
 show (match (cur bs p).next with | some x=>if P x=true then (x::(some_ P n (cur bs p).on).1,(some_ P n (cur bs p).on).2) else ([],cur bs p) | none=>([],cur bs p))=_;rw [eV,rM,h];show (if P x=true then _ else _)=_;rw [if_pos hx]
theorem vYz {P:UInt8→Bool} {n:Nat} {bs:Bytes} {p:Nat} (h:nextIs P (cur bs p)=false):some_ P n (cur bs p)=([],cur bs p):=by
 cases n with
 | zero=>rfl
 | succ n =>
  rw [tR] at h;show (match (cur bs p).next with | some x=>if P x=true then (x::(some_ P n (cur bs p).on).1,(some_ P n (cur bs p).on).2) else ([],cur bs p) | none=>([],cur bs p))=_;rw [eV];cases e:bs[p]? with
  | none=>rfl
  | some x =>
   rw [e] at h;show (if P x=true then _ else _)=_;rw [if_neg (by rw [show P x=false from h];decide)]
theorem dXz (P:UInt8→Bool):∀(n:Nat) (bs:Bytes) (p:Nat),(some_ P n (cur bs p)).2=cur bs (p+(some_ P n (cur bs p)).1.length)∧(some_ P n (cur bs p)).1.length≤n∧
  (∀x∈(some_ P n (cur bs p)).1,P x=true)∧p+(some_ P n (cur bs p)).1.length≤max bs.length p
 | 0,bs,p=>⟨rfl,Nat.le_refl _,fun x h=>(by cases h),by show p+0≤_;omega⟩
 | n+1,bs,p=>by
  cases h:nextIs P (cur bs p) with
  | false =>
   rw [vYz h];exact⟨rfl,Nat.zero_le _,fun x h=>(by cases h),by show p+0≤_;omega⟩
  | true =>
   obtain⟨x,hx,hp⟩:=bK h;obtain⟨h1,h2,h3,h4⟩:=dXz P n bs (p+1);have hl:=fZ hx;rw [xI hx hp];refine⟨?_,by simp;omega,fun y hy=>?_,by simp;omega⟩
   ·show (some_ P n (cur bs (p+1))).2=cur bs (p+((some_ P n (cur bs (p+1))).1.length+1))
    rw [h1];congr 1;omega
   ·rcases List.mem_cons.mp hy with rfl | hy
    ·exact hp
    ·exact h3 y hy
theorem iTz (may:Bytes) (bs:Bytes) (p:Nat):behind may (cur bs p) =
  if bs[p]?=some LF then .ok (none,cur bs (p+1))
  else if bs[p]?=some 32∧may≠[] then (match bs[p+1]? with
   | some x=>if may.contains x=true then .ok (some x,cur bs (p+2)) else .error (p+1)
   | none => .error (p+1))
  else .error p:=by
 unfold behind;rw [eV,rM,eV,rM,iRz,iRz]
 all_goals rfl
structure Beh (bs may:Bytes) (k:Option UInt8) (c:Cur) (q:Nat):Prop where
 cur:c=cur bs (q+1)
 sign:bs[q]?=some (k.getD LF)
 ATz:∀x,k=some x→x∈may
theorem yR {may bs:Bytes} {p:Nat} {k:Option UInt8} {c:Cur} (h:behind may (cur bs p) = .ok (k,c)):∃q,p≤q∧Beh bs may k c q∧((bs[p]?=some LF∧k=none∧q=p)∨(bs[p]?=some 32∧may≠[]∧k.isSome=true∧q=p+1)):=by
 rw [iTz] at h
 by_cases h1:bs[p]?=some LF
 ·rw [if_pos h1] at h
  injection h with h
  injection h with h2 h3
  subst h2 h3;exact⟨p,Nat.le_refl _,⟨rfl,h1,fun x q=>by cases q⟩,.inl ⟨h1,rfl,rfl⟩⟩
 ·rw [if_neg h1] at h
  by_cases h2:bs[p]?=some 32∧may≠[]
  ·rw [if_pos h2] at h
   cases e:bs[p+1]? with
   | none=>rw [e] at h;cases h
   | some x =>
    rw [e] at h
    by_cases hm:may.contains x=true
    ·have h':(if may.contains x=true then (Except.ok (some x,Ts.cur bs (p+2)):Except Nat (Option UInt8×Cur)) else .error (p+1)) = .ok (k,c):=h
     rw [if_pos hm] at h';injection h' with h'
     injection h' with h3 h4
     subst h3 h4;exact⟨p+1,Nat.le_succ _,⟨rfl,e,fun y q=>by injection q with q;subst q;exact List.contains_iff_mem.mp hm⟩,.inr ⟨h2.1,h2.2,rfl,rfl⟩⟩
    ·have h':(if may.contains x=true then (Except.ok (some x,Ts.cur bs (p+2)):Except Nat (Option UInt8×Cur)) else .error (p+1)) = .ok (k,c):=h
     rw [if_neg hm] at h';cases h'
  ·rw [if_neg h2] at h
   cases h
end Ts


namespace Ts
open Tide
theorem uJ (n:Nat) (bs:Bytes) (p:Nat):someDigits n (cur bs p)=if nextIs isDigit (cur bs p)=true then .ok (some_ isDigit n (cur bs p)) else .error p:=rfl
def numVal (neg:Bool) (d f:Bytes):Int:=if neg=true then -((decimal d*10 ^ 12+decimal f*10 ^ (12-f.length):Nat):Int) else ((decimal d*10 ^ 12+decimal f*10 ^ (12-f.length):Nat):Int)
theorem m9z (c:Cur):number c=(match someDigits 3 (if nextIs (fun (x:UInt8)=>x == 45) c=true then c.on else c) with
  | .error q => .error q
  | .ok (d,c1)=>match (if nextIs (fun (x:UInt8)=>x == 46) c1=true then someDigits 12 c1.on else .ok ([],c1)) with
   | .error q => .error q
   | .ok (f,c2) => .ok (numVal (nextIs (fun (x:UInt8)=>x == 45) c) d f,c2)):=by
 unfold number;cases e1:someDigits 3 (if nextIs (fun (x:UInt8)=>x == 45) c=true then c.on else c) with
 | error q=>simp only [e1];rfl
 | ok a =>
  obtain⟨d,c1⟩:=a;simp only [e1];cases e2:(if nextIs (fun (x:UInt8)=>x == 46) c1=true then someDigits 12 c1.on else (Except.ok ([],c1):Except Nat (Bytes×Cur))) with
  | error q =>
   show (Except.bind (if nextIs (fun (x:UInt8)=>x == 46) c1=true then someDigits 12 c1.on else (Except.ok ([],c1):Except Nat (Bytes×Cur))) _)=_;rw [e2];rfl
  | ok b =>
   show (Except.bind (if nextIs (fun (x:UInt8)=>x == 46) c1=true then someDigits 12 c1.on else (Except.ok ([],c1):Except Nat (Bytes×Cur))) _)=_;rw [e2];rfl
theorem kN {n:Nat} {bs:Bytes} {p:Nat} {d:Bytes} {c:Cur} (hn:0<n) (h:someDigits n (cur bs p) = .ok (d,c)) :
  c=cur bs (p+d.length)∧0<d.length∧d.length≤n∧(∀x∈d,isDigit x=true)∧p+d.length≤bs.length∧some_ isDigit n (cur bs p)=(d,c)∧nextIs isDigit (cur bs p)=true:=by
 rw [uJ] at h
 by_cases hd:nextIs isDigit (cur bs p)=true
 ·rw [if_pos hd] at h
  injection h with h
  obtain⟨h1,h2,h3,h4⟩:=dXz isDigit n bs p;obtain⟨x,hx,hp⟩:=bK hd;have hl:=fZ hx;obtain⟨m,rfl⟩:∃m,n=m+1:=⟨n-1,by omega⟩;have h0:0<(some_ isDigit (m+1) (cur bs p)).1.length:=by rw [xI hx hp];simp
  rw [h] at h1 h2 h3 h4 h0;exact⟨h1,h0,h2,h3,by show p+d.length≤_;have:p+d.length≤max bs.length p:=h4;omega,h,hd⟩
 ·rw [if_neg hd] at h
  cases h
structure z6z (bs:Bytes) (p:Nat) (v:Int) (q:Nat) (neg:Bool) (d f:Bytes):Prop where
 val:v=numVal neg d f
 dl:0<d.length∧d.length≤3
 fl:f.length≤12
 dd:∀x∈d,isDigit x=true
 fd:∀x∈f,isDigit x=true
 len:q=p+(if neg=true then 1 else 0)+d.length+(if f=[] then 0 else f.length+1)
 top:q≤bs.length
theorem lQ {bs:Bytes} {p:Nat} {v:Int} {c:Cur} (h:number (cur bs p) = .ok (v,c)):∃q neg d f,c=cur bs q∧z6z bs p v q neg d f:=by
 rw [m9z] at h;have hc:(if nextIs (fun (x:UInt8)=>x == 45) (cur bs p)=true then (cur bs p).on else cur bs p)=cur bs (p+(if nextIs (fun (x:UInt8)=>x == 45) (cur bs p)=true then 1 else 0)):=by
  by_cases hn:nextIs (fun (x:UInt8)=>x == 45) (cur bs p)=true
  ·rw [if_pos hn,if_pos hn,rM]
  ·rw [if_neg hn,if_neg hn];rfl
 rw [hc] at h;generalize hneg:nextIs (fun (x:UInt8)=>x == 45) (cur bs p)=neg at h;cases e1:someDigits 3 (cur bs (p+(if neg=true then 1 else 0))) with
 | error q=>rw [e1] at h;cases h
 | ok a =>
  obtain⟨d,c1⟩:=a;obtain⟨k1,k2,k3,k4,k5,_⟩:=kN (by decide) e1;rw [e1] at h;subst k1;dsimp only at h
  by_cases hp:nextIs (fun (x:UInt8)=>x == 46) (cur bs (p+(if neg=true then 1 else 0)+d.length))=true
  ·rw [if_pos hp,rM] at h
   cases e2:someDigits 12 (cur bs (p+(if neg=true then 1 else 0)+d.length+1)) with
   | error q=>rw [e2] at h;cases h
   | ok b =>
    obtain⟨f,c2⟩:=b;obtain⟨j1,j2,j3,j4,j5,_⟩:=kN (by decide) e2;rw [e2] at h;dsimp only at h;injection h with h
    injection h with h1 h2
    subst h2;refine⟨_,neg,d,f,j1,h1.symm,⟨k2,k3⟩,j3,k4,j4,?_,by omega⟩;rw [if_neg (fun q:f=[]=>by rw [q] at j2;simp at j2)];omega
  ·rw [if_neg hp] at h
   dsimp only at h;injection h with h
   injection h with h1 h2
   subst h2;exact⟨_,neg,d,[],rfl,h1.symm,⟨k2,k3⟩,Nat.zero_le _,k4,fun x q=>(by cases q),by rw [if_pos rfl];rfl,by omega⟩
def isSign (x:UInt8):Bool:=isLetter x||isDigit x
theorem zS (bs:Bytes) (p:Nat):nameIn (cur bs p)=if nextIs isLetter (cur bs p)=true then .ok (some_ isSign 7 (cur bs p)) else .error p:=rfl
structure yUz (bs:Bytes) (p:Nat) (n:Bytes):Prop where
 len:0<n.length∧n.length≤7
 signs:∀x∈n,isSign x=true
 top:p+n.length≤bs.length
theorem gX {bs:Bytes} {p:Nat} {n:Bytes} {c:Cur} (h:nameIn (cur bs p) = .ok (n,c)):c=cur bs (p+n.length)∧yUz bs p n∧nextIs isLetter (cur bs p)=true∧some_ isSign 7 (cur bs p)=(n,c):=by
 rw [zS] at h
 by_cases hd:nextIs isLetter (cur bs p)=true
 ·rw [if_pos hd] at h
  injection h with h
  obtain⟨h1,h2,h3,h4⟩:=dXz isSign 7 bs p;obtain⟨x,hx,hp⟩:=bK hd;have hl:=fZ hx;have h0:0<(some_ isSign (6+1) (cur bs p)).1.length:=by rw [xI hx (by unfold isSign;rw [hp];rfl)];simp
  rw [h] at h1 h2 h3 h4 h0;exact⟨h1,⟨⟨h0,h2⟩,h3,by show p+n.length≤_;have:p+n.length≤max bs.length p:=h4;omega⟩,hd,h⟩
 ·rw [if_neg hd] at h
  cases h
def is19 (x:UInt8):Bool:=decide (49≤x.toNat)&&decide (x.toNat≤57)
def is05 (x:UInt8):Bool:=decide (48≤x.toNat)&&decide (x.toNat≤53)
def countIn (c:Cur):Except Nat (Nat×Cur) :=
 let d:=some_ isDigit 1 c
 let f:=if nextIs (fun (x:UInt8)=>x == 49) c=true∧nextIs is05 d.2=true then some_ isDigit 1 d.2 else ([],d.2)
 match blank f.2 with
 | .error q => .error q
 | .ok e => .ok (decimal (d.1++f.1),e)
theorem lIz (minus:Bool) (c:Cur):termIn minus c=(match (if nextIs is19 c=true then countIn c else .ok (1,c)) with
  | .error q => .error q
  | .ok (k,c1)=>match nameIn c1 with
   | .error q => .error q
   | .ok (n,e) => .ok (⟨minus,k,n,c1.at_⟩,e)):=by
 unfold termIn;show (Except.bind (if nextIs is19 c=true then _ else (Except.ok (1,c):Except Nat (Nat×Cur))) _)=_
 by_cases h:nextIs is19 c=true
 ·rw [if_pos h,if_pos h]
  rcases hd:some_ isDigit 1 c with ⟨d,e⟩
  rcases hf:(if nextIs (fun (x:UInt8)=>x == 49) c=true∧nextIs is05 e=true then some_ isDigit 1 e else (([],e):Bytes×Cur)) with ⟨f,e2⟩
  have e0:countIn c=(match blank e2 with | .error q => .error q | .ok e => .ok (decimal (d++f),e)):=by
   unfold countIn;rw [hd];dsimp only;rw [hf]
  rw [e0]
  show Except.bind (match (if nextIs (fun (x:UInt8)=>x == 49) c=true∧nextIs is05 e=true then some_ isDigit 1 e else (([],e):Bytes×Cur)) with
   | (f,e)=>Except.bind (blank e) fun e=>(Except.ok (decimal (d++f),e):Except Nat (Nat×Cur))) _=_
  rw [hf];dsimp only;cases blank e2 with
  | error q=>rfl
  | ok e3 =>
   dsimp only [Except.bind];cases nameIn e3 with
   | error q=>rfl
   | ok a=>rfl
 ·rw [if_neg h,if_neg h]
  show (Except.bind (Except.ok (1,c):Except Nat (Nat×Cur)) _)=_;dsimp only [Except.bind];cases nameIn c with
  | error q=>rfl
  | ok a=>rfl
end Ts


namespace Ts
open Tide
theorem iQz:∀k:Fin 16,(digitsOf k.val).length=if k.val<10 then 1 else 2:=by decide +kernel
theorem uJz {x:UInt8} (h:is19 x=true):isDigit x=true:=by
 unfold is19 at h;unfold isDigit;simp only [Bool.and_eq_true,decide_eq_true_eq] at h ⊢;omega
theorem uKz {x:UInt8} (h:is05 x=true):isDigit x=true:=by
 unfold is05 at h;unfold isDigit;simp only [Bool.and_eq_true,decide_eq_true_eq] at h ⊢;omega
theorem jIz {P:UInt8→Bool} {bs:Bytes} {p:Nat} {x:UInt8} (hx:bs[p]?=some x) (h:P x=true):some_ P 1 (cur bs p)=([x],cur bs (p+1)):=by
 rw [xI hx h];rfl
theorem dec1 (x:UInt8):decimal [x]=x.toNat-48:=by
 show 10*0+(x.toNat-48)=_;omega
theorem dec2 (x y:UInt8):decimal [x,y]=10*(x.toNat-48)+(y.toNat-48):=by
 show 10*(10*0+(x.toNat-48))+(y.toNat-48)=_;omega
theorem nZz {bs:Bytes} {p:Nat} {x:UInt8} (hx:bs[p]?=some x) (h:is19 x=true) (no:¬ (x=49∧nextIs is05 (cur bs (p+1))=true)) :
  countIn (cur bs p)=(match blank (cur bs (p+1)) with | .error q => .error q | .ok e => .ok (x.toNat-48,e)):=by
 unfold countIn;rw [jIz hx (uJz h),cS hx];dsimp only;rw [if_neg (fun q=>no ⟨by simpa using q.1,q.2⟩),List.append_nil,dec1]
 try rfl
theorem nYz {bs:Bytes} {p:Nat} {y:UInt8} (hx:bs[p]?=some 49) (hy:bs[p+1]?=some y) (h:is05 y=true) :
  countIn (cur bs p)=(match blank (cur bs (p+2)) with | .error q => .error q | .ok e => .ok (10+(y.toNat-48),e)):=by
 unfold countIn;rw [jIz hx (by decide),cS hx];dsimp only;rw [if_pos ⟨rfl,by rw [cS hy];exact h⟩,jIz hy (uKz h)];dsimp only;rw [show ([49]++[y]:Bytes)=[49,y] from rfl,dec2];rfl
theorem uSz {bs:Bytes} {p:Nat} {k:Nat} {c:Cur} (h19:nextIs is19 (cur bs p)=true) (h:countIn (cur bs p) = .ok (k,c)) :
  ∃q,c=cur bs q∧1≤k∧k≤15∧q=p+(digitsOf k).length+1∧q≤bs.length:=by
 obtain⟨x,hx,hq⟩:=bK h19;have hb:49≤x.toNat∧x.toNat≤57:=by simpa [is19] using hq
 by_cases no:x=49∧nextIs is05 (cur bs (p+1))=true
 ·obtain⟨rfl,h2⟩:=no
  obtain⟨y,hy,hyq⟩:=bK h2;have hyb:48≤y.toNat∧y.toNat≤53:=by simpa [is05] using hyq
  rw [nYz hx hy hyq,gA] at h
  by_cases hs:bs[p+2]?=some 32
  ·rw [if_pos hs] at h
   injection h with h
   injection h with h1 h2
   subst h2;have hl:=fZ hs;have dl:=iQz ⟨10+(y.toNat-48),by omega⟩;dsimp only at dl;rw [if_neg (by omega),h1] at dl;exact⟨p+3,rfl,by omega,by omega,by rw [dl],by omega⟩
  ·rw [if_neg hs] at h
   cases h
 ·rw [nZz hx hq no,gA] at h
  by_cases hs:bs[p+1]?=some 32
  ·rw [if_pos hs] at h
   injection h with h
   injection h with h1 h2
   subst h2;have hl:=fZ hs;have dl:=iQz ⟨x.toNat-48,by omega⟩;dsimp only at dl;rw [if_pos (by omega),h1] at dl;exact⟨p+2,rfl,by omega,by omega,by rw [dl],by omega⟩
  ·rw [if_neg hs] at h
   cases h
structure A4z (bs:Bytes) (p:Nat) (x:Term) (q:Nat):Prop where
 at_:p≤x.at_∧x.at_+x.name.length=q
 name:yUz bs x.at_ x.name
 cnt:1≤x.count∧x.count≤15
 txt:(if x.count=1 then ([]:Bytes) else digitsOf x.count++[32]).length≤x.at_-p
theorem dMz {minus:Bool} {bs:Bytes} {p:Nat} {x:Term} {c:Cur} (h:termIn minus (cur bs p) = .ok (x,c)):∃q,c=cur bs q∧A4z bs p x q∧x.minus=minus:=by
 rw [lIz] at h
 by_cases h19:nextIs is19 (cur bs p)=true
 ·rw [if_pos h19] at h
  cases e1:countIn (cur bs p) with
  | error q=>rw [e1] at h;cases h
  | ok a =>
   obtain⟨k,c1⟩:=a;obtain⟨q1,rfl,k1,k2,k3,k4⟩:=uSz h19 e1;rw [e1] at h;dsimp only at h;cases e2:nameIn (cur bs q1) with
   | error q=>rw [e2] at h;cases h
   | ok b =>
    obtain⟨n,e⟩:=b;obtain⟨j1,j2,j3,j4⟩:=gX e2;rw [e2] at h;dsimp only at h;injection h with h
    injection h with h1 h2
    subst h1 h2;refine⟨_,j1,⟨⟨by show p≤q1;omega,rfl⟩,j2,⟨k1,k2⟩,?_⟩,rfl⟩;show (if k=1 then ([]:Bytes) else digitsOf k++[32]).length≤q1-p
    by_cases hk:k=1
    ·rw [if_pos hk];exact Nat.zero_le _
    ·rw [if_neg hk,List.length_append]
     show (digitsOf k).length+1≤_;omega
 ·rw [if_neg h19] at h
  dsimp only at h;cases e2:nameIn (cur bs p) with
  | error q=>rw [e2] at h;cases h
  | ok b =>
   obtain⟨n,e⟩:=b;obtain⟨j1,j2,j3,j4⟩:=gX e2;rw [e2] at h;dsimp only at h;injection h with h
   injection h with h1 h2
   subst h1 h2;exact⟨_,j1,⟨⟨Nat.le_refl _,rfl⟩,j2,⟨Nat.le_refl _,by show 1≤15;decide⟩,Nat.zero_le _⟩,rfl⟩
theorem gT (first:Bool) {bs:Bytes} {p q:Nat} {x:Term} (h:A4z bs p x q):(printTerm first x).length≤(if first=true then (if x.minus=true then 2 else 0) else 3)+(q-p):=by
 unfold printTerm;rw [List.length_append,List.length_append];have h1:=h.txt;have h2:=h.at_;have a1:(ascii "- ").length=2:=by decide +kernel
 have a2:(ascii " - ").length=3:=by decide +kernel
 have a3:(ascii " + ").length=3:=by decide +kernel
 have h3:((if first=true then (if x.minus=true then ascii "- " else []) else (if x.minus=true then ascii " - " else ascii " + ")):Bytes).length=(if first=true then (if x.minus=true then 2 else 0) else 3):=by
  cases first <;> cases x.minus <;> simp [a1,a2,a3]
 rw [h3];omega
def Rise (p q:Nat) (l:List Nat):Prop:=l.Pairwise (· < ·)∧∀a∈l,p≤a∧a<q
theorem Rise.nil {p q:Nat}:Rise p q []:=⟨List.Pairwise.nil,fun a h=>(by cases h)⟩
theorem Rise.one {p q a:Nat} (h1:p≤a) (h2:a<q):Rise p q [a]:=⟨List.pairwise_singleton _ _,fun b h=>by simp at h;subst h;exact⟨h1,h2⟩⟩
theorem Rise.app {p q r:Nat} {l m:List Nat} (x:Rise p q l) (y:Rise q r m) (h1:p≤q) (h2:q≤r):Rise p r (l++m):=by
 refine⟨List.pairwise_append.mpr ⟨x.1,y.1,fun a ha b hb=>?_⟩,fun a ha=>?_⟩
 ·have:=x.2 a ha;have:=y.2 b hb;omega
 ·rcases List.mem_append.mp ha with ha | ha
  ·have:=x.2 a ha;omega
  ·have:=y.2 a ha;omega
theorem Rise.mono {p q p' q':Nat} {l:List Nat} (x:Rise p q l) (h1:p'≤p) (h2:q≤q'):Rise p' q' l:=⟨x.1,fun a ha=>by have:=x.2 a ha;omega⟩
structure uWz (bs:Bytes) (p:Nat) (l:List Term) (e:Nat):Prop where
 rise:Rise p e (l.map Term.at_)
 names:∀x∈l,yUz bs x.at_ x.name
 cnts:∀x∈l,1≤x.count∧x.count≤15
 len:0<l.length∧l.length≤8
 txt:(printSum l).length≤e-p
 le:p≤e
theorem tO (may:Bytes) (f:Nat) (minus:Bool) (l:List Term) (c:Cur):terms may (f+1) minus l c=(match termIn minus c with
  | .error q => .error q
  | .ok (x,c1)=>match behind (mays (l++[x]).length may) c1 with
   | .error q => .error q
   | .ok (k,c2)=>if k=some 43∨k=some 45 then (match blank c2 with
     | .error q => .error q
     | .ok c3=>terms may f (k == some 45) (l++[x]) c3)
    else .ok (l++[x],k,c2)):=by
 show (Except.bind (termIn minus c) _)=_;cases termIn minus c with
 | error q=>rfl
 | ok a =>
  obtain⟨x,c1⟩:=a;dsimp only [Except.bind];show (Except.bind (behind (mays (l++[x]).length may) c1) _)=_;cases behind (mays (l++[x]).length may) c1 with
  | error q=>rfl
  | ok b =>
   obtain⟨k,c2⟩:=b;dsimp only [Except.bind]
   by_cases hk:k=some 43∨k=some 45
   ·rw [if_pos hk,if_pos hk]
    show (Except.bind (blank c2) _)=_;cases blank c2 with
    | error q=>rfl
    | ok c3=>rfl
   ·rw [if_neg hk,if_neg hk]
    rfl
theorem jEz (may:Bytes) (c:Cur):sumIn may c=(match (if nextIs (fun (x:UInt8)=>x == 45) c=true then blank c.on else .ok c) with
  | .error q => .error q
  | .ok c1=>terms may 8 (nextIs (fun (x:UInt8)=>x == 45) c) [] c1):=by
 unfold sumIn;show (Except.bind (if nextIs (fun (x:UInt8)=>x == 45) c=true then blank c.on else .ok c) _)=_;cases (if nextIs (fun (x:UInt8)=>x == 45) c=true then blank c.on else (Except.ok c:Except Nat Cur)) with
 | error q=>rfl
 | ok c1=>rfl
theorem pM (l:List Term) (x:Term) (h:l≠[]):printSum (l++[x])=printSum l++printTerm false x:=by
 cases l with
 | nil=>exact absurd rfl h
 | cons a l =>
  show printTerm true a++(l++[x]).flatMap (printTerm false)=(printTerm true a++l.flatMap (printTerm false))++printTerm false x;rw [List.flatMap_append,List.append_assoc]
  simp
theorem sHz {n:Nat} {may:Bytes} {x:UInt8} (h:x∈mays n may) (h1:x≠43) (h2:x≠45):x∈may:=by
 unfold mays at h;rcases List.mem_append.mp h with h | h
 ·by_cases hn:n<TERMS
  ·rw [if_pos hn] at h;simp at h;rcases h with h | h <;> contradiction
  ·rw [if_neg hn] at h;cases h
 ·exact h
structure tAz (bs may:Bytes) (k:Option UInt8) (c:Cur) (e q:Nat):Prop where
 beh:Beh bs may k c q
 stop:(k=none∧q=e)∨(k.isSome=true∧q=e+1∧may≠[])
 low:k≠some 43∧k≠some 45
theorem jBz {may:Bytes} {bs:Bytes} {p0:Nat} (hm:43∉may∧45∉may):∀(f:Nat) (minus:Bool) (l:List Term) (p:Nat) {l':List Term} {k:Option UInt8} {c:Cur},l.length+f=8→
  (l=[]→p=p0+(if minus=true then 2 else 0))→(l≠[]→uWz bs p0 l (p-3)∧p0+3≤p)→terms may f minus l (cur bs p) = .ok (l',k,c)→∃e q,uWz bs p0 l' e∧tAz bs may k c e q
 | 0,minus,l,p,l',k,c,_,_,_,h=>by cases h
 | f+1,minus,l,p,l',k,c,hl,h0,h1,h=>by
  rw [tO] at h;cases e1:termIn minus (cur bs p) with
  | error q=>rw [e1] at h;cases h
  | ok a =>
   obtain⟨x,c1⟩:=a;obtain⟨q1,rfl,ht,hmin⟩:=dMz e1;rw [e1] at h;dsimp only at h;have hq1:p<q1:=by have:=ht.at_;have:=ht.name.len;omega
   have S:uWz bs p0 (l++[x]) q1:=by
    by_cases hn:l=[]
    ·subst hn
     have hp:=h0 rfl;refine⟨by simpa using Rise.one (by have:=ht.at_;omega) (by have:=ht.at_;have:=ht.name.len;omega),fun y hy=>?_,fun y hy=>?_,by simp,?_,by omega⟩
     ·simp at hy;subst hy;exact ht.name
     ·simp at hy;subst hy;exact ht.cnt
     ·have:=gT true ht
      rw [if_pos rfl,hmin] at this;show (printTerm true x++([]:List Term).flatMap (printTerm false)).length≤_;simp only [List.flatMap_nil,List.append_nil];split at hp <;> simp_all <;> omega
    ·obtain⟨S,hp⟩:=h1 hn
     have hle:=S.le;refine⟨?_,fun y hy=>?_,fun y hy=>?_,by simp;omega,?_,by omega⟩
     ·rw [List.map_append]
      exact S.rise.app (q:=p-3) (r:=q1) (Rise.one (by have:=ht.at_;omega) (by have:=ht.at_;have:=ht.name.len;omega)) (by omega) (by omega)
     ·rcases List.mem_append.mp hy with hy | hy
      ·exact S.names y hy
      ·simp at hy;subst hy;exact ht.name
     ·rcases List.mem_append.mp hy with hy | hy
      ·exact S.cnts y hy
      ·simp at hy;subst hy;exact ht.cnt
     ·have:=gT false ht
      rw [if_neg (by decide)] at this
      have:=S.txt
      rw [pM _ _ hn,List.length_append];omega
   cases e2:behind (mays (l++[x]).length may) (cur bs q1) with
   | error q=>rw [e2] at h;cases h
   | ok b =>
    obtain⟨kk,c2⟩:=b;obtain⟨q2,hq2,B,hB⟩:=yR e2;rw [e2] at h;dsimp only at h
    by_cases hk:kk=some 43∨kk=some 45
    ·rw [if_pos hk] at h
     have hq2':q2=q1+1:=by
      rcases hB with ⟨_,rfl,_⟩ | ⟨_,_,_,rfl⟩
      ·rcases hk with hk | hk <;> cases hk
      ·rfl
     have hc2:=B.cur;subst hc2;rw [gA] at h
     by_cases hs:bs[q2+1]?=some 32
     ·rw [if_pos hs] at h
      refine jBz hm f (kk == some 45) (l++[x]) (q2+1+1) (by simp;omega) (fun z=>by simp at z) (fun _=>⟨?_,by have:=S.le;omega⟩) h;rw [show q2+1+1-3=q1 by omega];exact S
     ·rw [if_neg hs] at h
      cases h
    ·rw [if_neg hk] at h
     injection h with h
     injection h with h2 h3
     injection h3 with h3 h4
     subst h2 h3 h4;refine⟨q1,q2,S,⟨B.cur,B.sign,fun y hy=>?_⟩,?_,fun z=>hk (.inl z),fun z=>hk (.inr z)⟩
     ·exact sHz (B.ATz y hy) (fun z=>hk (.inl (by rw [hy,z]))) (fun z=>hk (.inr (by rw [hy,z])))
     ·rcases hB with ⟨_,z1,z2⟩ | ⟨_,_,z1,z2⟩
      ·exact .inl ⟨z1,z2⟩
      ·refine .inr ⟨z1,z2,fun z=>?_⟩
       obtain⟨y,hy⟩:=Option.isSome_iff_exists.mp z1
       have:=sHz (B.ATz y hy) (fun z=>hk (.inl (by rw [hy,z]))) (fun z=>hk (.inr (by rw [hy,z])))
       rw [z] at this;cases this
theorem tQ {may:Bytes} {bs:Bytes} {p:Nat} {l:List Term} {k:Option UInt8} {c:Cur} (hm:43∉may∧45∉may) (h:sumIn may (cur bs p) = .ok (l,k,c)):∃e q,uWz bs p l e∧tAz bs may k c e q:=by
 rw [jEz] at h
 by_cases hn:nextIs (fun (x:UInt8)=>x == 45) (cur bs p)=true
 ·rw [if_pos hn,rM,gA] at h
  by_cases hs:bs[p+1]?=some 32
  ·rw [if_pos hs] at h
   dsimp only at h;rw [hn] at h;exact jBz hm 8 true [] (p+1+1) rfl (fun _=>rfl) (fun z=>absurd rfl z) h
  ·rw [if_neg hs] at h
   cases h
 ·rw [if_neg hn] at h
  dsimp only at h;rw [show nextIs (fun (x:UInt8)=>x == 45) (cur bs p)=false by simpa using hn] at h;exact jBz hm 8 false [] p rfl (fun _=>rfl) (fun z=>absurd rfl z) h
end Ts


namespace Ts
open Tide
theorem iWz:ascii "angle " = [97,110,103,108,101,32]:=by decide +kernel
theorem vAz:ascii "wave " = [119,97,118,101,32]:=by decide +kernel
theorem A8z:ascii "sum " = [115,117,109,32]:=by decide +kernel
theorem w_urn:ascii "urn " = [117,114,110,32]:=by decide +kernel
theorem vCz:ascii "actor " = [97,99,116,111,114,32]:=by decide +kernel
theorem ADz:ascii "hift " = [104,105,102,116,32]:=by decide +kernel
theorem w_90:ascii "90" = [57,48]:=by decide +kernel
theorem w_180:ascii "180" = [49,56,48]:=by decide +kernel
theorem w_270:ascii "270" = [50,55,48]:=by decide +kernel
theorem w_turn:ascii " turn " = [32,116,117,114,110,32]:=by decide +kernel
theorem qZz:ascii " factor " = [32,102,97,99,116,111,114,32]:=by decide +kernel
theorem vBz:ascii " shift " = [32,115,104,105,102,116,32]:=by decide +kernel
theorem CVz (a b:Bytes):∀n,b.foldl (fun (n:Nat) (x:UInt8)=>10*n+(x.toNat-48)) n=n*10 ^ b.length+b.foldl (fun (n:Nat) (x:UInt8)=>10*n+(x.toNat-48)) 0:=by
 induction b with
 | nil=>intro n;simp
 | cons x b ih =>
  intro n;rw [List.foldl_cons,List.foldl_cons,ih (10*n+(x.toNat-48)),ih (10*0+(x.toNat-48)),List.length_cons,Nat.pow_succ,Nat.add_mul,Nat.mul_zero,Nat.zero_add];rw [show n*(10 ^ b.length*10)=10*n*10 ^ b.length by rw [← Nat.mul_assoc,Nat.mul_comm (n*10 ^ b.length) 10,Nat.mul_assoc]];omega
theorem vC (a b:Bytes):decimal (a++b)=decimal a*10 ^ b.length+decimal b:=by
 unfold decimal;rw [List.foldl_append,CVz a b]
theorem tU:∀(b:Bytes),(∀x∈b,isDigit x=true)→decimal b<10 ^ b.length:=by
 intro b
 induction b with
 | nil=>intro _;decide
 | cons x b ih =>
  intro h;have hx:isDigit x=true:=h x List.mem_cons_self;have hb:x.toNat-48≤9:=by
   unfold isDigit at hx;simp only [Bool.and_eq_true,decide_eq_true_eq] at hx;omega
  have:=ih fun y hy=>h y (List.mem_cons_of_mem _ hy)
  rw [show x::b=[x]++b from rfl,vC,dec1,List.length_append,List.length_singleton,Nat.pow_add];have h2:(x.toNat-48)*10 ^ b.length≤9*10 ^ b.length:=Nat.mul_le_mul_right _ hb;omega
theorem z6z.lt {bs:Bytes} {p:Nat} {v:Int} {q:Nat} {neg:Bool} {d f:Bytes} (h:z6z bs p v q neg d f):v.natAbs<10 ^ 15:=by
 have h1:=tU d h.dd;have h2:=tU f h.fd;have h3:10 ^ d.length≤10 ^ 3:=Nat.pow_le_pow_right (by decide) h.dl.2;have h4:decimal f*10 ^ (12-f.length)<10 ^ 12:=by
  have:decimal f*10 ^ (12-f.length)<10 ^ f.length*10 ^ (12-f.length):=Nat.mul_lt_mul_of_pos_right h2 (Nat.pow_pos (by decide))
  rw [← Nat.pow_add,show f.length+(12-f.length)=12 by have:=h.fl;omega] at this;exact this
 have e:v.natAbs=decimal d*10 ^ 12+decimal f*10 ^ (12-f.length):=by
  rw [h.val];unfold numVal;split <;> omega
 rw [e]
 have:decimal d*10 ^ 12≤999*10 ^ 12:=Nat.mul_le_mul_right _ (by omega)
 omega
def chB (c:Char):UInt8:=UInt8.ofNat c.toNat
theorem yOz (bs:ByteArray):∀(n i:Nat) (r:List UInt8),bs.size-i=n→ByteArray.toList.loop bs i r=r.reverse++bs.data.toList.drop i
 | 0,i,r,h=>by
  rw [ByteArray.toList.loop];have hs:bs.data.toList.length=bs.size:=Array.length_toList;rw [if_neg (by omega),List.drop_eq_nil_of_le (by omega),List.append_nil]
 | n+1,i,r,h=>by
  rw [ByteArray.toList.loop];have hs:bs.data.toList.length=bs.size:=Array.length_toList;rw [if_pos (by omega),yOz bs n (i+1) _ (by omega),List.reverse_cons,List.append_assoc];congr 1;rw [List.drop_eq_getElem_cons (show i<bs.data.toList.length by omega)];have hd:bs.get! i=bs.data.toList[i]'(by omega):=by
   have hi:i<bs.data.size:=by have:bs.data.size=bs.size:=rfl;omega
   show bs.data[i]! = _;rw [getElem!_pos bs.data i hi]
   simp
  rw [hd];rfl
theorem oZz (l:List UInt8):l.toByteArray.toList=l:=by
 show ByteArray.toList.loop l.toByteArray 0 []=l;rw [yOz _ _ 0 [] rfl,List.data_toByteArray]
 simp
theorem n9z (cs:List Char) (h:∀c∈cs,c.toNat<128):ascii (String.ofList cs)=cs.map chB:=by
 show (cs.flatMap String.utf8EncodeChar).toByteArray.toList=cs.map chB;rw [oZz]
 induction cs with
 | nil=>rfl
 | cons c cs ih =>
  rw [List.flatMap_cons,List.map_cons,ih fun d hd=>h d (List.mem_cons_of_mem _ hd)];have hc:=h c List.mem_cons_self;have e:String.utf8EncodeChar c=[chB c]:=by
   unfold String.utf8EncodeChar;have hv:c.val.toNat≤127:=by
    have:c.toNat=c.val.toNat:=rfl
    omega
   simp only [hv,if_true];rfl
  rw [e];rfl
end Ts


namespace Ts
open Tide
theorem lZ (n:Nat):digitsOf n=(Nat.toDigits 10 n).map chB:=by
 show ascii (Nat.repr n)=_;rw [Nat.repr_eq_ofList_toDigits,n9z];intro c hc
 have:=Nat.isDigit_of_mem_toDigits (by decide) (by decide) hc
 simp only [Char.isDigit,Bool.and_eq_true,decide_eq_true_eq] at this;have h2:c.val≤57:=this.2
 have:c.val.toNat≤57:=h2
 show c.val.toNat<128;omega
def dg (n:Nat):UInt8:=UInt8.ofNat (48+n%10)
theorem n1z:∀k:Fin 10,chB (Nat.digitChar k.val)=dg k.val:=by decide +kernel
theorem fVz {n:Nat} (h:n<10):digitsOf n=[dg n]:=by
 rw [lZ,Nat.toDigits_of_lt_base h];show [chB n.digitChar]=_;rw [n1z ⟨n,h⟩]
theorem qCz {n:Nat} (h:10≤n):digitsOf n=digitsOf (n/10)++[dg n]:=by
 rw [lZ,lZ,Nat.toDigits_of_base_le (by decide) h,List.map_append];congr 1;show [chB (n%10).digitChar]=[dg n];rw [n1z ⟨n%10,Nat.mod_lt _ (by decide)⟩];unfold dg;rw [Nat.mod_mod]
def pad:Nat→Nat→Bytes
 | 0,_=>[]
 | k+1,n=>pad k (n/10)++[dg n]
theorem pCz:∀k n,(pad k n).length=k
 | 0,_=>rfl
 | k+1,n=>by rw [pad,List.length_append,pCz k];rfl
theorem sBz:∀k,pad k 0=List.replicate k 48
 | 0=>rfl
 | k+1=>by
  rw [pad,show 0/10=0 from rfl,sBz k,List.replicate_succ'];rfl
theorem fE {n k:Nat} (hk:0<k) (h:n<10 ^ k):(digitsOf n).length≤k:=by
 rw [lZ,List.length_map];exact (Nat.length_toDigits_le_iff (by decide) hk).mpr h
theorem iAz:∀(k n:Nat),n<10 ^ (k+1)→List.replicate (k+1-(digitsOf n).length) 48++digitsOf n=pad (k+1) n
 | 0,n,h=>by
  have h:n<10:=by simpa using h
  rw [fVz h];rfl
 | k+1,n,h=>by
  by_cases hn:n<10
  ·rw [fVz hn,pad,show n/10=0 by omega,sBz]
   rfl
  ·rw [qCz (by omega),pad,← iAz k (n/10) (by rw [Nat.pow_succ] at h;omega),← List.append_assoc]
   have:=fE (n:=n/10) (k:=k+1) (by omega) (by rw [Nat.pow_succ] at h;omega)
   rw [List.length_append,show k+1+1-((digitsOf (n/10)).length+[dg n].length)=k+1-(digitsOf (n/10)).length by simp]
theorem tN {n:Nat} (h:n<10 ^ 12):twelve n=pad 12 n:=iAz 11 n h
theorem mQz (y:Nat):∀(j k:Nat),pad (k+j) (y*10 ^ j)=pad k y++List.replicate j 48
 | 0,k=>by simp
 | j+1,k=>by
  show pad (k+j) (y*10 ^ (j+1)/10)++[dg (y*10 ^ (j+1))]=_;have e:y*10 ^ (j+1)=10*(y*10 ^ j):=by rw [Nat.pow_succ,← Nat.mul_assoc,Nat.mul_comm]
  have e2:dg (10*(y*10 ^ j))=48:=by
   unfold dg;rw [Nat.mul_mod_right];rfl
  rw [e,e2,Nat.mul_div_cancel_left _ (by decide),mQz y j k,List.replicate_succ',List.append_assoc]
theorem v0z (l:Bytes) (j:Nat):shorn (l++List.replicate j 48)=shorn l:=by
 unfold shorn;rw [List.reverse_append,List.reverse_replicate];congr 1
 induction j with
 | zero=>rfl
 | succ j ih =>
  rw [List.replicate_succ,List.cons_append,List.dropWhile_cons,if_pos (by decide)];exact ih
theorem qN {α : Type} (P : α→Bool):∀l:List α,(l.dropWhile P).length≤l.length
 | []=>Nat.le_refl _
 | a::l=>by
  rw [List.dropWhile_cons];split
  ·have:=qN P l;simp;omega
  ·exact Nat.le_refl _
theorem lUz (l:Bytes):(shorn l).length≤l.length:=by
 unfold shorn;rw [List.length_reverse];exact Nat.le_trans (qN _ _) (by simp)
theorem lP {bs:Bytes} {p:Nat} {v:Int} {q:Nat} {neg:Bool} {d f:Bytes} (h:z6z bs p v q neg d f):(printNumber v).length≤q-p:=by
 have h1:=tU d h.dd;have h2:=tU f h.fd;have hfl:=h.fl;have h4:decimal f*10 ^ (12-f.length)<10 ^ 12:=by
  have:decimal f*10 ^ (12-f.length)<10 ^ f.length*10 ^ (12-f.length):=Nat.mul_lt_mul_of_pos_right h2 (Nat.pow_pos (by decide))
  rw [← Nat.pow_add,show f.length+(12-f.length)=12 by omega] at this;exact this
 have e:v.natAbs=decimal d*10 ^ 12+decimal f*10 ^ (12-f.length):=by
  rw [h.val];unfold numVal;split <;> omega
 have e1:v.natAbs/10 ^ 12=decimal d:=by omega
 have e2:v.natAbs%10 ^ 12=decimal f*10 ^ (12-f.length):=by omega
 have hs:(if v<0 then ([45]:Bytes) else []).length≤if neg=true then 1 else 0:=by
  by_cases hv:v<0
  ·rw [if_pos hv]
   have:neg=true:=by
    cases hneg:neg with
    | true=>rfl
    | false =>
     have hv2:=h.val;rw [hneg] at hv2;unfold numVal at hv2;rw [if_neg (by decide)] at hv2;omega
   rw [if_pos this];exact Nat.le_refl _
  ·rw [if_neg hv]
   exact Nat.zero_le _
 unfold printNumber;dsimp only;rw [List.length_append,List.length_append,e1,e2,h.len];have hd:=fE h.dl.1 h1
 by_cases hz:decimal f*10 ^ (12-f.length)=0
 ·rw [if_pos hz]
  show _+(_+0)≤_;omega
 ·rw [if_neg hz,tN h4]
  have hne:f≠[]:=by
   rintro rfl;exact hz (by show decimal []*_=0;rw [show decimal []=0 from rfl,Nat.zero_mul])
  rw [if_neg hne,show (12:Nat)=f.length+(12-f.length) by omega,show f.length+(12-f.length)-f.length=12-f.length by omega,mQz,v0z]
  have:=lUz (pad f.length (decimal f))
  rw [pCz] at this;rw [List.length_cons];omega
end Ts


namespace Ts
open Tide
theorem bHz (letter:UInt8) (word later:Bytes) (k:Option UInt8) (l:List Part) (c:Cur):partsIn letter word later 0 k l c = .ok (l,k,c):=rfl
theorem hZz {letter:UInt8} {word later:Bytes} {f:Nat} {k:Option UInt8} {l:List Part} {c:Cur} (h:k≠some letter):partsIn letter word later f k l c = .ok (l,k,c):=by
 cases f with
 | zero=>rfl
 | succ f =>
  show (if k=some letter then _ else Except.ok (l,k,c))=_;rw [if_neg h]
theorem eNz (letter:UInt8) (word later:Bytes) (f:Nat) (l:List Part) (c:Cur):partsIn letter word later (f+1) (some letter) l c=(match lit word c with
  | .error q => .error q
  | .ok c1=>match number c1 with
   | .error q => .error q
   | .ok (v,c2)=>match blank c2 with
    | .error q => .error q
    | .ok c3=>match sumIn ((if f=0 then [] else [letter])++later) c3 with
     | .error q => .error q
     | .ok (s,k,c4)=>partsIn letter word later f k (l++[⟨v,s⟩]) c4):=by
 show (if some letter=some letter then _ else Except.ok (l,some letter,c))=_;rw [if_pos rfl];show Except.bind (lit word c) _=_;cases lit word c with
 | error q=>rfl
 | ok c1 =>
  dsimp only;show Except.bind (number c1) _=_;cases number c1 with
  | error q=>rfl
  | ok a =>
   obtain⟨v,c2⟩:=a;dsimp only;show Except.bind (blank c2) _=_;cases blank c2 with
   | error q=>rfl
   | ok c3 =>
    dsimp only;show Except.bind (sumIn ((if f=0 then [] else [letter])++later) c3) _=_;cases sumIn ((if f=0 then [] else [letter])++later) c3 with
    | error q=>rfl
    | ok b=>rfl
structure hEz (l:List Term):Prop where
 names:∀x∈l,0<x.name.length∧x.name.length≤7
 cnts:∀x∈l,1≤x.count∧x.count≤15
 len:0<l.length∧l.length≤8
theorem uWz.ok {bs:Bytes} {p e:Nat} {l:List Term} (h:uWz bs p l e):hEz l:=⟨fun x hx=>(h.names x hx).len,h.cnts,h.len⟩
structure vG (x:Part):Prop where
 num:x.number.natAbs<10 ^ 15
 sum:hEz x.sum
structure At (bs:Bytes) (k:Option UInt8) (c:Cur) (e q:Nat):Prop where
 cur:c=cur bs (q+1)
 sign:bs[q]?=some (k.getD LF)
 stop:(k=none∧q=e)∨(k.isSome=true∧q=e+1)
theorem tAz.at {bs may:Bytes} {k:Option UInt8} {c:Cur} {e q:Nat} (h:tAz bs may k c e q):At bs k c e q :=
 ⟨h.beh.cur,h.beh.sign,h.stop.elim .inl fun z => .inr ⟨z.1,z.2.1⟩⟩
structure qMz (e:Nat) (W:Bytes) (l:List Part) (e':Nat):Prop where
 rise:Rise e e' ((l.flatMap Part.sum).map Term.at_)
 ok:∀x∈l,vG x
 txt:(l.flatMap (printPart W)).length≤e'-e
 le:e≤e'
theorem oS {letter:UInt8} {word later W:Bytes} {bs:Bytes} {e0:Nat} (hW:W.length=word.length+2) (hm:43∉letter::later∧45∉letter::later):∀(f:Nat) (k:Option UInt8) (l:List Part) (c:Cur) (e q:Nat) {l':List Part} {k':Option UInt8} {c':Cur},
  At bs k c e q→qMz e0 W l e→partsIn letter word later f k l c = .ok (l',k',c')→(∀x,k=some x→x∈letter::later)→l.length+f=8→
  ∃e' q',At bs k' c' e' q'∧qMz e0 W l' e'∧(∀x,k'=some x→x∈later∨(x=letter∧f=0))∧l'.length≤8
 | 0,k,l,c,e,q,l',k',c',A,Pt,h,hk,hl=>by
  rw [bHz] at h;injection h with h
  injection h with h1 h2
  injection h2 with h2 h3
  subst h1 h2 h3;refine⟨e,q,A,Pt,fun x hx=>?_,by omega⟩;rcases List.mem_cons.mp (hk x hx) with z | z
  ·exact .inr ⟨z,rfl⟩
  ·exact .inl z
 | f+1,k,l,c,e,q,l',k',c',A,Pt,h,hk,hl=>by
  by_cases hkl:k=some letter
  ·subst hkl
   rw [eNz] at h;have hc:=A.cur;subst hc;have hq:q=e+1:=by
    rcases A.stop with ⟨z,_⟩ | ⟨_,z⟩
    ·cases z
    ·exact z
   cases e1:lit word (cur bs (q+1)) with
   | error x=>rw [e1] at h;cases h
   | ok c1 =>
    rw [e1] at h;dsimp only at h;obtain⟨j1,_,_⟩:=wXz word e1;subst j1;cases e2:number (cur bs (q+1+word.length)) with
    | error x=>rw [e2] at h;cases h
    | ok a =>
     obtain⟨v,c2⟩:=a;rw [e2] at h;dsimp only at h;obtain⟨q2,neg,d,fr,rfl,NA⟩:=lQ e2;have nlen:=NA.len;have ndl:=NA.dl;have nl:=lP NA;rw [gA] at h
     by_cases hs:bs[q2]?=some 32
     ·rw [if_pos hs] at h
      dsimp only at h;cases e3:sumIn ((if f=0 then [] else [letter])++later) (cur bs (q2+1)) with
      | error x=>rw [e3] at h;cases h
      | ok b =>
       obtain⟨s,k4,c4⟩:=b;rw [e3] at h;dsimp only at h;have hm':43∉(if f=0 then [] else [letter])++later∧45∉(if f=0 then [] else [letter])++later:=by
        by_cases hf:f=0
        ·rw [if_pos hf]
         exact⟨fun z=>hm.1 (List.mem_cons_of_mem _ z),fun z=>hm.2 (List.mem_cons_of_mem _ z)⟩
        ·rw [if_neg hf]
         exact hm
       obtain⟨e4,q4,S,SE⟩:=tQ hm' e3;have hle:=S.le;have hple:=Pt.le;have Pt':qMz e0 W (l++[⟨v,s⟩]) e4:=by
        refine⟨?_,fun x hx=>?_,?_,by omega⟩
        ·rw [List.flatMap_append,List.map_append]
         refine Pt.rise.app (q:=e) (r:=e4) ?_ (by omega) (by omega);simp only [List.flatMap_cons,List.flatMap_nil,List.append_nil];exact S.rise.mono (by omega) (Nat.le_refl _)
        ·rcases List.mem_append.mp hx with hx | hx
         ·exact Pt.ok x hx
         ·simp at hx
          subst hx;exact⟨NA.lt,S.ok⟩
        ·rw [List.flatMap_append,List.length_append]
         simp only [List.flatMap_cons,List.flatMap_nil,List.append_nil];have t1:=Pt.txt;have t2:=S.txt;have t3:(printPart W ⟨v,s⟩).length=W.length+((printNumber v).length+((printSum s).length+1)):=by
          unfold printPart;rw [List.length_append,List.length_append,List.length_cons]
         omega
       refine oS hW hm f k4 (l++[⟨v,s⟩]) c4 e4 q4 SE.at Pt' h (fun x hx=>?_) (by simp;omega) |>.imp fun e' z=>z.imp fun q' z=>⟨z.1,z.2.1,fun x hx=>?_,z.2.2.2⟩
       ·have:=SE.beh.ATz x hx
        rcases List.mem_append.mp this with z | z
        ·by_cases hf:f=0
         ·rw [if_pos hf] at z;cases z
         ·rw [if_neg hf] at z;simp at z;rw [z];exact List.mem_cons_self
        ·exact List.mem_cons_of_mem _ z
       ·rcases z.2.2.1 x hx with y | ⟨y1,y2⟩
        ·exact .inl y
        ·subst y2
         rw [bHz] at h;injection h with h
         injection h with _ h2
         injection h2 with h2 _
         subst h2
         have:=SE.beh.ATz x hx
         rw [if_pos rfl] at this;exact .inl this
     ·rw [if_neg hs] at h
      cases h
  ·rw [hZz hkl] at h
   injection h with h
   injection h with h1 h2
   injection h2 with h2 h3
   subst h1 h2 h3;refine⟨e,q,A,Pt,fun x hx=>?_,by omega⟩;rcases List.mem_cons.mp (hk x hx) with z | z
   ·exact absurd (by rw [hx,z]) hkl
   ·exact .inl z
end Ts


namespace Ts
open Tide
theorem dA {w bs:Bytes} {p:Nat} {c:Cur} (h:lit w (cur bs p) = .ok c):c=cur bs (p+w.length):=(wXz w h).1
theorem vKz {bs:Bytes} {p n:Nat} {c:Cur} (h:turnIn (cur bs p) = .ok (n,c)):1≤n∧n≤3∧c=cur bs (p+(digitsOf (90*n)).length):=by
 have d1:(digitsOf (90*1)).length=2:=by decide +kernel
 have d2:(digitsOf (90*2)).length=3:=by decide +kernel
 have d3:(digitsOf (90*3)).length=3:=by decide +kernel
 unfold turnIn at h;rw [eV] at h;split at h
 ·rw [w_90] at h
  cases e:lit [57,48] (cur bs p) with
  | error q=>rw [e] at h;cases h
  | ok c1 =>
   rw [e] at h;have h':(Except.ok (1,c1):Except Nat (Nat×Cur)) = .ok (n,c):=h;injection h' with h'
   injection h' with h1 h2
   subst h1 h2;exact⟨by decide,by decide,by rw [d1];exact dA e⟩
 ·split at h
  ·rw [w_180] at h
   cases e:lit [49,56,48] (cur bs p) with
   | error q=>rw [e] at h;cases h
   | ok c1 =>
    rw [e] at h;have h':(Except.ok (2,c1):Except Nat (Nat×Cur)) = .ok (n,c):=h;injection h' with h'
    injection h' with h1 h2
    subst h1 h2;exact⟨by decide,by decide,by rw [d2];exact dA e⟩
  ·split at h
   ·rw [w_270] at h
    cases e:lit [50,55,48] (cur bs p) with
    | error q=>rw [e] at h;cases h
    | ok c1 =>
     rw [e] at h;have h':(Except.ok (3,c1):Except Nat (Nat×Cur)) = .ok (n,c):=h;injection h' with h'
     injection h' with h1 h2
     subst h1 h2;exact⟨by decide,by decide,by rw [d3];exact dA e⟩
   ·cases h
def turnPart (k:Option UInt8) (c:Cur):Except Nat (Nat×Option UInt8×Cur) :=
 if k=some 116 then (match lit (ascii "urn ") c with
  | .error q => .error q
  | .ok c1=>match turnIn c1 with
   | .error q => .error q
   | .ok (n,c2)=>match behind [102,115] c2 with
    | .error q => .error q
    | .ok (k2,c3) => .ok (n,k2,c3))
 else .ok (0,k,c)
theorem zX {bs:Bytes} {p:Nat} (h:bs[p]?=some 97):lineIn (cur bs p)=(match lit (ascii "angle ") (cur bs p) with
  | .error q => .error q
  | .ok c1=>match nameIn c1 with
   | .error q => .error q
   | .ok (n,c2)=>match blank c2 with
    | .error q => .error q
    | .ok c3=>match number c3 with
     | .error q => .error q
     | .ok (x,c4)=>match blank c4 with
      | .error q => .error q
      | .ok c5=>match number c5 with
       | .error q => .error q
       | .ok (y,c6)=>match lit [LF] c6 with
        | .error q => .error q
        | .ok c7 => .ok (.angle n c1.at_ x y,c7)):=by
 unfold lineIn;rw [eV,if_pos h];show Except.bind (lit (ascii "angle ") (cur bs p)) _=_;cases lit (ascii "angle ") (cur bs p) with
 | error q=>rfl
 | ok c1 =>
  dsimp only;show Except.bind (nameIn c1) _=_;cases nameIn c1 with
  | error q=>rfl
  | ok a =>
   dsimp only;show Except.bind (blank a.2) _=_;cases blank a.2 with
   | error q=>rfl
   | ok c3 =>
    dsimp only;show Except.bind (number c3) _=_;cases number c3 with
    | error q=>rfl
    | ok a2 =>
     dsimp only;show Except.bind (blank a2.2) _=_;cases blank a2.2 with
     | error q=>rfl
     | ok c5 =>
      dsimp only;show Except.bind (number c5) _=_;cases number c5 with
      | error q=>rfl
      | ok a3 =>
       dsimp only;show Except.bind (lit [LF] a3.2) _=_;cases lit [LF] a3.2 with
       | error q=>rfl
       | ok c7=>rfl
theorem nEz {bs:Bytes} {p:Nat} (h:bs[p]?=some 119):lineIn (cur bs p)=(match lit (ascii "wave ") (cur bs p) with
  | .error q => .error q
  | .ok c1=>match nameIn c1 with
   | .error q => .error q
   | .ok (n,c2)=>match blank c2 with
    | .error q => .error q
    | .ok c3=>match sumIn [116,102,115] c3 with
     | .error q => .error q
     | .ok (s,k,c4)=>match turnPart k c4 with
      | .error q => .error q
      | .ok (t,k5,c5)=>match partsIn 102 (ascii "actor ") [115] 8 k5 [] c5 with
       | .error q => .error q
       | .ok (fs,k6,c6)=>match partsIn 115 (ascii "hift ") [] 8 k6 [] c6 with
        | .error q => .error q
        | .ok (ss,_,c7) => .ok (.wave n c1.at_ s t fs ss,c7)):=by
 unfold lineIn;rw [eV,if_neg (by rw [h];decide),if_pos h];show Except.bind (lit (ascii "wave ") (cur bs p)) _=_;cases lit (ascii "wave ") (cur bs p) with
 | error q=>rfl
 | ok c1 =>
  dsimp only;show Except.bind (nameIn c1) _=_;cases nameIn c1 with
  | error q=>rfl
  | ok a =>
   dsimp only;show Except.bind (blank a.2) _=_;cases blank a.2 with
   | error q=>rfl
   | ok c3 =>
    dsimp only;show Except.bind (sumIn [116,102,115] c3) _=_;cases sumIn [116,102,115] c3 with
    | error q=>rfl
    | ok a2 =>
     obtain⟨s,k,c4⟩:=a2;dsimp only
     have e:(if k=some 116 then (do
       let c ← lit (ascii "urn ") c4
       let (q,c) ← turnIn c
       let (k,c) ← behind [102,115] c
       return (q,k,c))
      else .ok (0,k,c4):Except Nat (Nat×Option UInt8×Cur))=turnPart k c4:=by
      unfold turnPart
      by_cases hk:k=some 116
      ·rw [if_pos hk,if_pos hk]
       show Except.bind (lit (ascii "urn ") c4) _=_;cases lit (ascii "urn ") c4 with
       | error q=>rfl
       | ok d1 =>
        dsimp only;show Except.bind (turnIn d1) _=_;cases turnIn d1 with
        | error q=>rfl
        | ok d2 =>
         dsimp only;show Except.bind (behind [102,115] d2.2) _=_;cases behind [102,115] d2.2 with
         | error q=>rfl
         | ok d3=>rfl
      ·rw [if_neg hk,if_neg hk]
     show Except.bind (if k=some 116 then (do
       let c ← lit (ascii "urn ") c4
       let (q,c) ← turnIn c
       let (k,c) ← behind [102,115] c
       return (q,k,c))
      else .ok (0,k,c4):Except Nat (Nat×Option UInt8×Cur)) _=_
     rw [e];cases turnPart k c4 with
     | error q=>rfl
     | ok a3 =>
      obtain⟨t,k5,c5⟩:=a3;dsimp only;show Except.bind (partsIn 102 (ascii "actor ") [115] 8 k5 [] c5) _=_;cases partsIn 102 (ascii "actor ") [115] 8 k5 [] c5 with
      | error q=>rfl
      | ok a4 =>
       obtain⟨fs,k6,c6⟩:=a4;dsimp only;show Except.bind (partsIn 115 (ascii "hift ") [] 8 k6 [] c6) _=_;cases partsIn 115 (ascii "hift ") [] 8 k6 [] c6 with
       | error q=>rfl
       | ok a5=>rfl
theorem sJz {bs:Bytes} {p:Nat} (h:bs[p]?=some 115):lineIn (cur bs p)=(match lit (ascii "sum ") (cur bs p) with
  | .error q => .error q
  | .ok c1=>match nameIn c1 with
   | .error q => .error q
   | .ok (n,c2)=>match blank c2 with
    | .error q => .error q
    | .ok c3=>match sumIn [] c3 with
     | .error q => .error q
     | .ok (s,_,c4) => .ok (.sum n c1.at_ s,c4)):=by
 unfold lineIn;rw [eV,if_neg (by rw [h];decide),if_neg (by rw [h];decide),if_pos h];show Except.bind (lit (ascii "sum ") (cur bs p)) _=_;cases lit (ascii "sum ") (cur bs p) with
 | error q=>rfl
 | ok c1 =>
  dsimp only;show Except.bind (nameIn c1) _=_;cases nameIn c1 with
  | error q=>rfl
  | ok a =>
   dsimp only;show Except.bind (blank a.2) _=_;cases blank a.2 with
   | error q=>rfl
   | ok c3 =>
    dsimp only;show Except.bind (sumIn [] c3) _=_;cases sumIn [] c3 with
    | error q=>rfl
    | ok a2=>rfl
theorem nFz {bs:Bytes} {p:Nat} (h1:bs[p]?≠some 97) (h2:bs[p]?≠some 119) (h3:bs[p]?≠some 115):lineIn (cur bs p) = .error p:=by
 unfold lineIn;rw [eV,if_neg h1,if_neg h2,if_neg h3];rfl
end Ts


namespace Ts
open Tide
def places (l:Line):List Nat:=l.place::l.uses.map Term.at_
inductive dW:Line→Prop where
 | angle {n:Bytes} {p:Nat} {x y:Int} (hn:0<n.length∧n.length≤7) (hx:x.natAbs<10 ^ 15) (hy:y.natAbs<10 ^ 15):dW (.angle n p x y)
 | wave {n:Bytes} {p:Nat} {s:List Term} {t:Nat} {fs ss:List Part} (hn:0<n.length∧n.length≤7) (hs:hEz s) (ht:t≤3) (hf:∀x∈fs,vG x) (hg:∀x∈ss,vG x) (lf:fs.length≤8) (ls:ss.length≤8):dW (.wave n p s t fs ss)
 | sum {n:Bytes} {p:Nat} {s:List Term} (hn:0<n.length∧n.length≤7) (hs:hEz s):dW (.sum n p s)
structure LineAt (bs:Bytes) (p:Nat) (l:Line) (q:Nat):Prop where
 rise:Rise p q (places l)
 ok:dW l
 txt:(printLine l).length≤q-p
 lt:p<q
theorem At.out {bs:Bytes} {k:Option UInt8} {c:Cur} {e q:Nat} (h:At bs k c e q) (hk:k=none):c=Ts.cur bs (e+1)∧bs[e]?=some LF:=by
 subst hk;rcases h.stop with ⟨_,z⟩ | ⟨z,_⟩
 ·subst z
  exact⟨h.cur,h.sign⟩
 ·cases z
theorem dKz {bs:Bytes} {k:Option UInt8} {c:Cur} {e q n:Nat} {k':Option UInt8} {c':Cur} (A:At bs k c e q) (hk:∀x,k=some x→x∈([116,102,115]:Bytes)) (h:turnPart k c = .ok (n,k',c')) :
  ∃e' q',At bs k' c' e' q'∧e≤e'∧n≤3∧(if n=0 then ([]:Bytes) else ascii " turn " ++ digitsOf (90*n)).length≤e'-e∧(∀x,k'=some x→x∈([102,115]:Bytes)):=by
 unfold turnPart at h
 by_cases hk1:k=some 116
 ·rw [if_pos hk1] at h
  have hq:q=e+1:=by
   rcases A.stop with ⟨z,_⟩ | ⟨_,z⟩
   ·rw [hk1] at z;cases z
   ·exact z
  have hc:=A.cur;subst hc;rw [w_urn] at h;cases e1:lit [117,114,110,32] (cur bs (q+1)) with
  | error x=>rw [e1] at h;cases h
  | ok c1 =>
   rw [e1] at h;dsimp only at h;have j1:=dA e1;subst j1;simp only [List.length_cons,List.length_nil,Nat.zero_add,Nat.reduceAdd] at h;cases e2:turnIn (cur bs (q+1+4)) with
   | error x=>rw [e2] at h;cases h
   | ok a =>
    obtain⟨n2,c2⟩:=a;rw [e2] at h;dsimp only at h;obtain⟨t1,t2,rfl⟩:=vKz e2;cases e3:behind [102,115] (cur bs (q+1+4+(digitsOf (90*n2)).length)) with
    | error x=>rw [e3] at h;cases h
    | ok b =>
     obtain⟨k3,c3⟩:=b;rw [e3] at h;dsimp only at h;injection h with h
     injection h with h1 h2
     injection h2 with h2 h3
     subst h1 h2 h3;obtain⟨q3,hq3,B,hB⟩:=yR e3;refine⟨_,q3,⟨B.cur,B.sign,hB.elim (fun z => .inl ⟨z.2.1,z.2.2⟩) fun z => .inr ⟨z.2.2.1,z.2.2.2⟩⟩,by omega,t2,?_,B.ATz⟩;rw [if_neg (by omega),w_turn,List.length_append];simp only [List.length_cons,List.length_nil];omega
 ·rw [if_neg hk1] at h
  injection h with h
  injection h with h1 h2
  injection h2 with h2 h3
  subst h1 h2 h3;refine⟨e,q,A,Nat.le_refl _,Nat.zero_le _,Nat.zero_le _,fun x hx=>?_⟩;rcases List.mem_cons.mp (hk x hx) with z | z
  ·exact absurd (by rw [hx,z]) hk1
  ·exact z
theorem wYz {bs:Bytes} {p:Nat} {l:Line} {c:Cur} (h:lineIn (cur bs p) = .ok (l,c)):∃q,c=cur bs q∧LineAt bs p l q∧q≤bs.length:=by
 by_cases h1:bs[p]?=some 97
 ·rw [zX h1,iWz] at h
  cases e1:lit [97,110,103,108,101,32] (cur bs p) with
  | error x=>rw [e1] at h;cases h
  | ok c1 =>
   rw [e1] at h;dsimp only at h;have j1:=dA e1;subst j1;simp only [List.length_cons,List.length_nil,Nat.zero_add,Nat.reduceAdd,iRz] at h;cases e2:nameIn (cur bs (p+6)) with
   | error x=>rw [e2] at h;cases h
   | ok a =>
    obtain⟨n,c2⟩:=a;rw [e2] at h;dsimp only at h;obtain⟨rfl,NA,_,_⟩:=gX e2;rw [gA] at h
    by_cases hs:bs[p+6+n.length]?=some 32
    ·rw [if_pos hs] at h
     dsimp only at h;cases e3:number (cur bs (p+6+n.length+1)) with
     | error x=>rw [e3] at h;cases h
     | ok b =>
      obtain⟨x,c4⟩:=b;rw [e3] at h;dsimp only at h;obtain⟨q4,neg,d,f,rfl,N1⟩:=lQ e3;rw [gA] at h
      by_cases hs2:bs[q4]?=some 32
      ·rw [if_pos hs2] at h
       dsimp only at h;cases e4:number (cur bs (q4+1)) with
       | error x=>rw [e4] at h;cases h
       | ok b2 =>
        obtain⟨y,c6⟩:=b2;rw [e4] at h;dsimp only at h;obtain⟨q6,neg2,d2,f2,rfl,N2⟩:=lQ e4;rw [kT] at h
        by_cases hs3:bs[q6]?=some LF
        ·rw [if_pos hs3] at h
         have h':(Except.ok (Line.angle n (p+6) x y,cur bs (q6+1)):Except Nat (Line×Cur)) = .ok (l,c):=h;injection h' with h'
         injection h' with k1 k2
         subst k1 k2;have l1:=N1.len;have l2:=N2.len;have p1:=lP N1;have p2:=lP N2;have hl:=fZ hs3;refine⟨q6+1,rfl,⟨Rise.one (by show p≤p+6;omega) (by show p+6<q6+1;omega),.angle NA.len N1.lt N2.lt,?_,by omega⟩,by omega⟩;show (ascii "angle " ++ (n++(32::(printNumber x++(32::(printNumber y++[LF])))))).length≤_;rw [iWz];simp only [List.length_append,List.length_cons,List.length_nil];omega
        ·rw [if_neg hs3] at h
         cases h
      ·rw [if_neg hs2] at h
       cases h
    ·rw [if_neg hs] at h
     cases h
 ·by_cases h2:bs[p]?=some 119
  ·rw [nEz h2,vAz] at h
   cases e1:lit [119,97,118,101,32] (cur bs p) with
   | error x=>rw [e1] at h;cases h
   | ok c1 =>
    rw [e1] at h;dsimp only at h;have j1:=dA e1;subst j1;simp only [List.length_cons,List.length_nil,Nat.zero_add,Nat.reduceAdd,iRz] at h;cases e2:nameIn (cur bs (p+5)) with
    | error x=>rw [e2] at h;cases h
    | ok a =>
     obtain⟨n,c2⟩:=a;rw [e2] at h;dsimp only at h;obtain⟨rfl,NA,_,_⟩:=gX e2;rw [gA] at h
     by_cases hs:bs[p+5+n.length]?=some 32
     ·rw [if_pos hs] at h
      dsimp only at h;cases e3:sumIn [116,102,115] (cur bs (p+5+n.length+1)) with
      | error x=>rw [e3] at h;cases h
      | ok b =>
       obtain⟨s,k,c4⟩:=b;rw [e3] at h;dsimp only at h;obtain⟨e4,q4,S,SE⟩:=tQ (by decide) e3;cases e5:turnPart k c4 with
       | error x=>rw [e5] at h;cases h
       | ok b2 =>
        obtain⟨t,k5,c5⟩:=b2;rw [e5] at h;dsimp only at h;obtain⟨e6,q6,A6,le6,t3,txt6,may6⟩:=dKz SE.at SE.beh.ATz e5;rw [vCz,ADz] at h;cases e7:partsIn 102 [97,99,116,111,114,32] [115] 8 k5 [] c5 with
        | error x=>rw [e7] at h;cases h
        | ok b3 =>
         obtain⟨fs,k7,c7⟩:=b3;rw [e7] at h;dsimp only at h;obtain⟨e8,q8,A8,P8,may8,len8⟩:=oS (W:=ascii " factor ") (e0:=e6) (by rw [qZz];rfl) (by decide) 8 k5 [] c5 e6 q6 A6 ⟨Rise.nil,fun x hx=>(by cases hx),Nat.zero_le _,Nat.le_refl _⟩ e7 may6 rfl;cases e9:partsIn 115 [104,105,102,116,32] [] 8 k7 [] c7 with
         | error x=>rw [e9] at h;cases h
         | ok b4 =>
          obtain⟨ss,k10,c10⟩:=b4;rw [e9] at h;dsimp only at h
          obtain⟨e10,q10,A10,P10,may10,len10⟩:=oS (W:=ascii " shift ") (e0:=e8) (by rw [vBz];rfl) (by decide) 8 k7 [] c7 e8 q8 A8 ⟨Rise.nil,fun x hx=>(by cases hx),Nat.zero_le _,Nat.le_refl _⟩ e9 (fun x hx=>by
           rcases may8 x hx with z | ⟨_,z⟩
           ·exact z
           ·exact absurd z (by decide)) rfl
          injection h with h
          injection h with k1 k2
          subst k1 k2;have hkn:k10=none:=by
           cases k10 with
           | none=>rfl
           | some x =>
            rcases may10 x rfl with z | ⟨_,z⟩
            ·cases z
            ·exact absurd z (by decide)
          obtain⟨rfl,hLF⟩:=A10.out hkn;have hl:=fZ hLF;have le4:=S.le;have le8:=P8.le;have le10:=P10.le;refine⟨e10+1,rfl,⟨?_,.wave NA.len S.ok t3 P8.ok P10.ok len8 len10,?_,by omega⟩,by omega⟩
          ·show Rise p (e10+1) ((p+5)::(s++(fs++ss).flatMap Part.sum).map Term.at_)
           have r1:Rise p (p+6) [p+5]:=Rise.one (by omega) (by omega);have r2:=S.rise.mono (p':=p+6) (q':=e6) (by omega) (by omega);have r3:=P8.rise;have r4:=P10.rise.mono (p':=e8) (q':=e10+1) (Nat.le_refl _) (by omega);have r:=((r1.app r2 (by omega) (by omega)).app r3 (by omega) (by omega)).app r4 (by omega) (by omega);have e:(p+5)::(s++(fs++ss).flatMap Part.sum).map Term.at_=[p+5]++s.map Term.at_++(fs.flatMap Part.sum).map Term.at_++(ss.flatMap Part.sum).map Term.at_:=by
            simp
           rw [e];exact r
          ·show (ascii "wave " ++ (n++(32::(printSum s++((if t=0 then [] else ascii " turn " ++ digitsOf (90*t))++(fs.flatMap (printPart (ascii " factor "))++(ss.flatMap (printPart (ascii " shift "))++[LF]))))))).length≤_
           have t1:=S.txt;have t8:=P8.txt;have t10:=P10.txt;rw [vAz];simp only [List.length_append,List.length_cons,List.length_nil] at txt6 ⊢;omega
     ·rw [if_neg hs] at h
      cases h
  ·by_cases h3:bs[p]?=some 115
   ·rw [sJz h3,A8z] at h
    cases e1:lit [115,117,109,32] (cur bs p) with
    | error x=>rw [e1] at h;cases h
    | ok c1 =>
     rw [e1] at h;dsimp only at h;have j1:=dA e1;subst j1;simp only [List.length_cons,List.length_nil,Nat.zero_add,Nat.reduceAdd,iRz] at h;cases e2:nameIn (cur bs (p+4)) with
     | error x=>rw [e2] at h;cases h
     | ok a =>
      obtain⟨n,c2⟩:=a;rw [e2] at h;dsimp only at h;obtain⟨rfl,NA,_,_⟩:=gX e2;rw [gA] at h
      by_cases hs:bs[p+4+n.length]?=some 32
      ·rw [if_pos hs] at h
       dsimp only at h;cases e3:sumIn [] (cur bs (p+4+n.length+1)) with
       | error x=>rw [e3] at h;cases h
       | ok b =>
        obtain⟨s,k,c4⟩:=b;rw [e3] at h;dsimp only at h;obtain⟨e4,q4,S,SE⟩:=tQ (by decide) e3;injection h with h
        injection h with k1 k2
        subst k1 k2;have hkn:k=none:=by
         cases k with
         | none=>rfl
         | some x=>exact absurd (SE.beh.ATz x rfl) (by simp)
        obtain⟨rfl,hLF⟩:=SE.at.out hkn;have hl:=fZ hLF;have le4:=S.le;refine⟨e4+1,rfl,⟨?_,.sum NA.len S.ok,?_,by omega⟩,by omega⟩
        ·show Rise p (e4+1) ((p+4)::s.map Term.at_)
         exact (Rise.one (q:=p+5) (by omega) (by omega)).app (S.rise.mono (p':=p+5) (q':=e4+1) (by omega) (by omega)) (by omega) (by omega)
        ·show (ascii "sum " ++ (n++(32::(printSum s++[LF])))).length≤_
         have t1:=S.txt;rw [A8z];simp only [List.length_append,List.length_cons,List.length_nil];omega
      ·rw [if_neg hs] at h
       cases h
   ·rw [nFz h1 h2 h3] at h
    cases h
theorem eZz {bs:Bytes} {f p:Nat} (h:bs.length≤p):linesIn f (cur bs p) = .ok []:=by
 cases f with
 | zero=>rfl
 | succ f =>
  show (if (cur bs p).rest=[] then _ else _)=_;rw [if_pos (by show bs.drop p=[];exact List.drop_eq_nil_of_le h)]
theorem bOz {bs:Bytes} {f p:Nat} (h:p<bs.length):linesIn (f+1) (cur bs p)=(match lineIn (cur bs p) with
  | .error q => .error q
  | .ok (l,c)=>match linesIn f c with
   | .error q => .error q
   | .ok r => .ok (l::r)):=by
 show (if (cur bs p).rest=[] then _ else _)=_
 rw [if_neg (by
  show ¬ bs.drop p=[];intro z
  have:=congrArg List.length z
  rw [List.length_drop,List.length_nil] at this;omega)]
 show Except.bind (lineIn (cur bs p)) _=_;cases lineIn (cur bs p) with
 | error q=>rfl
 | ok a =>
  dsimp only;show Except.bind (linesIn f a.2) _=_;cases linesIn f a.2 with
  | error q=>rfl
  | ok r=>rfl
structure A3z (bs:Bytes) (p:Nat) (ls:List Line):Prop where
 rise:Rise p bs.length (ls.flatMap places)
 ok:∀l∈ls,dW l
 txt:(printed ls).length≤bs.length-p
 num:ls.length≤bs.length-p
theorem sIz {bs:Bytes}:∀(f p:Nat) {ls:List Line},bs.length-p<f→p≤bs.length→linesIn f (cur bs p) = .ok ls→A3z bs p ls
 | 0,p,ls,h,_,_=>by omega
 | f+1,p,ls,h,hp,e=>by
  by_cases hl:bs.length≤p
  ·rw [eZz hl] at e
   injection e with e
   subst e;exact⟨Rise.nil,fun l hl=>(by cases hl),Nat.zero_le _,Nat.zero_le _⟩
  ·rw [bOz (by omega)] at e
   cases e1:lineIn (cur bs p) with
   | error q=>rw [e1] at e;cases e
   | ok a =>
    obtain⟨l,c⟩:=a;rw [e1] at e;dsimp only at e;obtain⟨q,rfl,LA,hq⟩:=wYz e1;have lt:=LA.lt;cases e2:linesIn f (cur bs q) with
    | error q=>rw [e2] at e;cases e
    | ok r =>
     rw [e2] at e;dsimp only at e;injection e with e
     subst e;have T:=sIz f q (by omega) hq e2;refine⟨?_,fun x hx=>?_,?_,?_⟩
     ·rw [List.flatMap_cons]
      exact LA.rise.app T.rise (by omega) hq
     ·rcases List.mem_cons.mp hx with rfl | hx
      ·exact LA.ok
      ·exact T.ok x hx
     ·show ((l::r).flatMap printLine).length≤_
      rw [List.flatMap_cons,List.length_append];have t1:=LA.txt;have t2:(r.flatMap printLine).length≤_:=T.txt;omega
     ·have:=T.num
      simp
      omega
theorem zZ {bs:Bytes} {ls:List Line} (h:grammar bs = .ok ls):A3z bs 0 ls:=sIz (bs.length+1) 0 (by omega) (Nat.zero_le _) h
end Ts


namespace Ts
open Tide
theorem lA (a b:Nat×Nat):sooner a b=true↔a.2<b.2∨(a.2=b.2∧a.1≤b.1):=by
 unfold sooner;simp [Bool.or_eq_true,Bool.and_eq_true,decide_eq_true_eq]
theorem o5z {a b:Nat×Nat} (h1:sooner a b=true) (h2:sooner b a=true):a=b:=by
 rw [lA] at h1 h2;obtain⟨a1,a2⟩:=a;obtain⟨b1,b2⟩:=b;simp only at h1 h2;have e1:a1=b1:=by omega
 have e2:a2=b2:=by omega
 rw [e1,e2]
def pick (m:Option (Nat×Nat)) (x:Nat×Nat):Option (Nat×Nat):=match m with
 | some y=>if sooner y x=true then some y else some x
 | none=>some x
theorem jTz {m:Nat×Nat}:∀(l:List (Nat×Nat)) (y:Nat×Nat),m∈y::l→(∀x∈y::l,sooner m x=true)→l.foldl pick (some y)=some m
 | [],y,hm,_=>by
  simp at hm;subst hm;rfl
 | x::l,y,hm,hs=>by
  rw [List.foldl_cons];show l.foldl pick (if sooner y x=true then some y else some x)=some m
  by_cases h:sooner y x=true
  ·rw [if_pos h]
   refine jTz l y ?_ fun z hz=>hs z ?_
   ·rcases List.mem_cons.mp hm with e | e
    ·rw [e];exact List.mem_cons_self
    ·rcases List.mem_cons.mp e with e | e
     ·have h2:=hs y List.mem_cons_self
      rw [e] at h2
      have:=o5z h h2
      rw [e,this];exact List.mem_cons_self
     ·exact List.mem_cons_of_mem _ e
   ·rcases List.mem_cons.mp hz with e | e
    ·rw [e];exact List.mem_cons_self
    ·exact List.mem_cons_of_mem _ (List.mem_cons_of_mem _ e)
  ·rw [if_neg h]
   refine jTz l x ?_ fun z hz=>hs z (List.mem_cons_of_mem _ hz);rcases List.mem_cons.mp hm with e | e
   ·exact absurd (by rw [← e];exact hs x (List.mem_cons_of_mem _ List.mem_cons_self)) h
   ·exact e
theorem tVz {m:Nat×Nat} {l:List (Nat×Nat)} (hm:m∈l) (hs:∀x∈l,sooner m x=true):l.foldl pick none=some m:=by
 cases l with
 | nil=>cases hm
 | cons y l=>exact jTz l y hm hs
def found (before:List Line) (l:Line) (x:Term):Bool:=before.any fun (y:Line)=>(if l.isWave=true then y.isAngle else y.isWave)&&y.name == x.name
def many (before:List Line) (l:Line):Bool:=if l.isAngle=true then decide (ANGLES≤(before.filter Line.isAngle).length) else decide (WAVES≤(before.filter fun (x:Line) => !x.isAngle).length)
def sumNat (l:List Nat):Nat:=l.foldr (fun (a b:Nat)=>a+b) 0
def large:Line→Bool
 | .wave _ _ _ _ fs _=>decide (10 ^ 12≤sumNat (fs.map fun (x:Part)=>x.number.natAbs))
 | .sum _ _ s=>decide (COUNTS<sumNat (s.map fun (x:Term)=>x.count))
 | .angle _ _ _ _=>false
theorem dBz (before:List Line) (l:Line):wrongs before l =
  (if before.any (fun (x:Line)=>x.name == l.name)=true then [(2,l.place)] else [])++((l.uses.filter fun x => !found before l x).map fun (x:Term)=>(3,x.at_)) ++
  (if many before l=true then [(4,l.place)] else [])++(if large l=true then [(5,l.place)] else []):=by
 unfold wrongs;congr 1;cases l with
 | angle n p x y=>rfl
 | wave n p s t fs ss =>
  show (if 10 ^ 12≤(fs.map fun (x:Part)=>x.number.natAbs).foldr (fun (a b:Nat)=>a+b) 0 then [(5,p)] else [])=(if decide (10 ^ 12≤(fs.map fun (x:Part)=>x.number.natAbs).foldr (fun (a b:Nat)=>a+b) 0)=true then [(5,p)] else []);simp only [decide_eq_true_eq]
 | sum n p s =>
  show (if COUNTS<(s.map fun (x:Term)=>x.count).foldr (fun (a b:Nat)=>a+b) 0 then [(5,p)] else [])=(if decide (COUNTS<(s.map fun (x:Term)=>x.count).foldr (fun (a b:Nat)=>a+b) 0)=true then [(5,p)] else []);simp only [decide_eq_true_eq]
def firstWrong (before:List Line) (l:Line):Option (Nat×Nat) :=
 if before.any (fun (x:Line)=>x.name == l.name)=true then some (2,l.place)
 else if many before l=true then some (4,l.place)
 else if large l=true then some (5,l.place)
 else (l.uses.find? fun x => !found before l x).map fun x=>(3,x.at_)
def scan:List Line→List Line→Option (Nat×Nat)
 | _,[]=>none
 | before,l::r=>match firstWrong before l with
  | some f=>some f
  | none=>scan (before++[l]) r
def wr:List Line→List Line→List (Nat×Nat)
 | _,[]=>[]
 | before,l::r=>wrongs before l++wr (before++[l]) r
theorem bWz:∀(r before:List Line),((List.range r.length).map (· + before.length)).flatMap (fun (i:Nat)=>match (before++r)[i]? with
  | some x=>wrongs ((before++r).take i) x
  | none=>[])=wr before r
 | [],before=>rfl
 | l::r,before=>by
  rw [List.length_cons,List.range_succ_eq_map,List.map_cons,List.flatMap_cons,List.map_map];have h1:(before++l::r)[0+before.length]?=some l:=by simp
  rw [h1];show wrongs ((before++l::r).take (0+before.length)) l++_=wrongs before l++wr (before++[l]) r;rw [Nat.zero_add,List.take_left];congr 1;rw [← bWz r (before++[l])];rw [show before++l::r=before++[l]++r by simp];congr 1;refine List.map_congr_left fun i _=>?_;show i+1+before.length=i+(before++[l]).length
  simp
  omega
theorem oBz (ls:List Line):allWrongs ls=wr [] ls:=by
 rw [← bWz ls []];show _=((List.range ls.length).map (· + 0)).flatMap _;rw [show ((List.range ls.length).map (· + 0))=List.range ls.length by simp];rfl
theorem aPz {before:List Line} {l:Line} {x:Nat×Nat} (h:x∈wrongs before l):x.2∈places l:=by
 rw [dBz] at h;unfold places;simp only [List.mem_append] at h;rcases h with ((h | h) | h) | h
 ·split at h
  ·simp at h;subst h;exact List.mem_cons_self
  ·cases h
 ·obtain⟨y,hy,rfl⟩:=List.mem_map.mp h
  exact List.mem_cons_of_mem _ (List.mem_map_of_mem (List.mem_filter.mp hy).1)
 ·split at h
  ·simp at h;subst h;exact List.mem_cons_self
  ·cases h
 ·split at h
  ·simp at h;subst h;exact List.mem_cons_self
  ·cases h
theorem qXz:∀(r before:List Line) {x:Nat×Nat},x∈wr before r→x.2∈r.flatMap places
 | [],_,x,h=>by cases h
 | l::r,before,x,h=>by
  rw [List.flatMap_cons];rcases List.mem_append.mp h with h | h
  ·exact List.mem_append_left _ (aPz h)
  ·exact List.mem_append_right _ (qXz r _ h)
theorem sT {before:List Line} {l:Line} (h:firstWrong before l=none):wrongs before l=[]:=by
 unfold firstWrong at h;rw [dBz];split at h
 ·cases h
 ·split at h
  ·cases h
  ·split at h
   ·cases h
   ·rename_i h1 h2 h3
    have h4:l.uses.find? (fun x => !found before l x)=none:=by
     cases e:l.uses.find? (fun x => !found before l x) with
     | none=>rfl
     | some x=>rw [e] at h;cases h
    have h5:l.uses.filter (fun x => !found before l x)=[]:=by
     rw [List.filter_eq_nil_iff];intro x hx;exact List.find?_eq_none.mp h4 x hx
    rw [if_neg h1,if_neg h2,if_neg h3,h5];rfl
theorem iMz {α : Type} {P : α→Bool} {g : α→Nat}:∀{l:List α} {x : α},(l.map g).Pairwise (· < ·)→l.find? P=some x→∀y∈l.filter P,g x≤g y
 | [],x,_,h=>by cases h
 | a::l,x,hp,h=>by
  intro y hy;rw [List.map_cons,List.pairwise_cons] at hp
  by_cases ha:P a=true
  ·rw [List.find?_cons_of_pos ha] at h
   injection h with h
   subst h;rw [List.filter_cons_of_pos ha] at hy;rcases List.mem_cons.mp hy with rfl | hy
   ·exact Nat.le_refl _
   ·exact Nat.le_of_lt (hp.1 _ (List.mem_map_of_mem (List.mem_filter.mp hy).1))
  ·rw [List.find?_cons_of_neg ha] at h
   rw [List.filter_cons_of_neg ha] at hy;exact iMz hp.2 h y hy
theorem fRz {before:List Line} {l:Line} {f:Nat×Nat} (hp:(places l).Pairwise (· < ·)) (h:firstWrong before l=some f):f∈wrongs before l∧∀x∈wrongs before l,sooner f x=true:=by
 unfold firstWrong at h;rw [dBz];unfold places at hp;rw [List.pairwise_cons] at hp;have late:∀x∈((l.uses.filter fun x => !found before l x).map fun (x:Term)=>((3,x.at_):Nat×Nat)),l.place<x.2:=fun x hx=>by
  obtain⟨y,hy,rfl⟩:=List.mem_map.mp hx;exact hp.1 _ (List.mem_map_of_mem (List.mem_filter.mp hy).1)
 have one:∀(k:Nat) (c:Bool) (x:Nat×Nat),x∈(if c=true then [(k,l.place)] else [])→x=(k,l.place)∧c=true:=fun k c x hx=>by
  cases c with
  | true=>simpa using hx
  | false=>simp at hx
 simp only [List.mem_append];split at h
 ·rename_i h1
  injection h with h
  subst h;refine⟨.inl (.inl (.inl (by rw [if_pos h1];exact List.mem_singleton_self _))),fun x hx=>?_⟩;rw [lA];rcases hx with ((hx | hx) | hx) | hx
  ·obtain⟨rfl,_⟩:=one _ _ _ hx;exact .inr ⟨rfl,Nat.le_refl _⟩
  ·exact .inl (late x hx)
  ·obtain⟨rfl,_⟩:=one _ _ _ hx;exact .inr ⟨rfl,by show 2≤4;decide⟩
  ·obtain⟨rfl,_⟩:=one _ _ _ hx;exact .inr ⟨rfl,by show 2≤5;decide⟩
 ·rename_i h1
  split at h
  ·rename_i h2
   injection h with h
   subst h;refine⟨.inl (.inr (by rw [if_pos h2];exact List.mem_singleton_self _)),fun x hx=>?_⟩;rw [lA];rcases hx with ((hx | hx) | hx) | hx
   ·obtain⟨_,z⟩:=one _ _ _ hx;exact absurd z h1
   ·exact .inl (late x hx)
   ·obtain⟨rfl,_⟩:=one _ _ _ hx;exact .inr ⟨rfl,Nat.le_refl _⟩
   ·obtain⟨rfl,_⟩:=one _ _ _ hx;exact .inr ⟨rfl,by show 4≤5;decide⟩
  ·rename_i h2
   split at h
   ·rename_i h3
    injection h with h
    subst h;refine⟨.inr (by rw [if_pos h3];exact List.mem_singleton_self _),fun x hx=>?_⟩;rw [lA];rcases hx with ((hx | hx) | hx) | hx
    ·obtain⟨_,z⟩:=one _ _ _ hx;exact absurd z h1
    ·exact .inl (late x hx)
    ·obtain⟨_,z⟩:=one _ _ _ hx;exact absurd z h2
    ·obtain⟨rfl,_⟩:=one _ _ _ hx;exact .inr ⟨rfl,Nat.le_refl _⟩
   ·rename_i h3
    cases e:l.uses.find? (fun x => !found before l x) with
    | none=>rw [e] at h;cases h
    | some t =>
     rw [e] at h;have h':some ((3,t.at_):Nat×Nat)=some f:=h;injection h' with h'
     subst h';have ht:t∈l.uses.filter (fun x => !found before l x):=List.mem_filter.mpr ⟨List.mem_of_find?_eq_some e,List.find?_some (p:=fun x => !found before l x) e⟩;refine⟨.inl (.inl (.inr (List.mem_map.mpr ⟨t,ht,rfl⟩))),fun x hx=>?_⟩;rw [lA];rcases hx with ((hx | hx) | hx) | hx
     ·obtain⟨_,z⟩:=one _ _ _ hx;exact absurd z h1
     ·obtain⟨y,hy,rfl⟩:=List.mem_map.mp hx
      have:=iMz (g:=Term.at_) hp.2 e y hy
      show t.at_<y.at_∨(t.at_=y.at_∧3≤3);omega
     ·obtain⟨_,z⟩:=one _ _ _ hx;exact absurd z h2
     ·obtain⟨_,z⟩:=one _ _ _ hx;exact absurd z h3
theorem lXz:∀(r before:List Line),scan before r=none→wr before r=[]
 | [],_,_=>rfl
 | l::r,before,h=>by
  have h':(match firstWrong before l with | some f=>some f | none=>scan (before++[l]) r)=none:=h;cases e:firstWrong before l with
  | some f=>rw [e] at h';cases h'
  | none =>
   rw [e] at h';show wrongs before l++wr (before++[l]) r=[];rw [sT e,lXz r _ h'];rfl
theorem lWz:∀(r before:List Line) {f:Nat×Nat},(r.flatMap places).Pairwise (· < ·)→scan before r=some f→f∈wr before r∧∀x∈wr before r,sooner f x=true
 | [],_,f,_,h=>by cases h
 | l::r,before,f,hp,h=>by
  have h':(match firstWrong before l with | some f=>some f | none=>scan (before++[l]) r)=some f:=h;rw [List.flatMap_cons,List.pairwise_append] at hp;cases e:firstWrong before l with
  | some g =>
   rw [e] at h';injection h' with h'
   subst h';obtain⟨k1,k2⟩:=fRz hp.1 e;refine⟨List.mem_append_left _ k1,fun x hx=>?_⟩;rcases List.mem_append.mp hx with hx | hx
   ·exact k2 x hx
   ·rw [lA]
    exact .inl (hp.2.2 _ (aPz k1) _ (qXz r _ hx))
  | none =>
   rw [e] at h';show f∈wrongs before l++wr (before++[l]) r∧∀x∈wrongs before l++wr (before++[l]) r,sooner f x=true;rw [sT e,List.nil_append];exact lWz r _ hp.2.1 h'
theorem zPz (bs:Bytes):Tide.judge bs=(match grammar bs with
  | .error p => .error (1,p)
  | .ok ls=>match scan [] ls with
   | some f => .error f
   | none => .ok ls):=by
 unfold Tide.judge;cases e:grammar bs with
 | error p=>rfl
 | ok ls =>
  have hp:=(zZ e).rise.1;show (match (allWrongs ls).foldl pick none with | some f=>Except.error f | none => .ok ls)=_;rw [oBz];dsimp only;cases e2:scan [] ls with
  | none=>rw [lXz ls [] e2];rfl
  | some f =>
   obtain⟨k1,k2⟩:=lWz ls [] hp e2;rw [tVz k1 k2]
structure cJz (ls:List Line):Prop where
 names:(ls.map Line.name).Nodup
 angles:(ls.filter Line.isAngle).length≤16
 waves:(ls.filter fun (x:Line) => !x.isAngle).length≤128
 large:∀l∈ls,Ts.large l=false
 uses:∀(b:List Line) (l:Line) (r:List Line),ls=b++l::r→∀x∈l.uses,found b l x=true
theorem cJz.nil:cJz []:=⟨List.nodup_nil,by decide,by decide,fun l h=>(by cases h),fun b l r h=>by
 have:=congrArg List.length h
 simp at this⟩
theorem cJz.snoc {b:List Line} {l:Line} (R:cJz b) (h:firstWrong b l=none):cJz (b++[l]):=by
 unfold firstWrong at h;split at h
 ·cases h
 ·split at h
  ·cases h
  ·split at h
   ·cases h
   ·rename_i h1 h2 h3
    have h4:l.uses.find? (fun x => !found b l x)=none:=by
     cases e:l.uses.find? (fun x => !found b l x) with
     | none=>rfl
     | some x=>rw [e] at h;cases h
    refine⟨?_,?_,?_,fun x hx=>?_,fun b2 l2 r2 e x hx=>?_⟩
    ·rw [List.map_append,List.nodup_append]
     refine⟨R.names,by simp,fun a ha c hc=>?_⟩;simp at hc;subst hc;obtain⟨y,hy,rfl⟩:=List.mem_map.mp ha;intro z;exact h1 (List.any_eq_true.mpr ⟨y,hy,by rw [z];exact beq_self_eq_true _⟩)
    ·rw [List.filter_append,List.length_append]
     have:=R.angles
     unfold many at h2
     by_cases ha:l.isAngle=true
     ·rw [if_pos ha,decide_eq_true_eq] at h2
      rw [List.filter_cons_of_pos ha]
      have:ANGLES=16:=rfl
      simp only [List.filter_nil,List.length_cons,List.length_nil];omega
     ·rw [List.filter_cons_of_neg ha]
      simpa using this
    ·rw [List.filter_append,List.length_append]
     have:=R.waves
     unfold many at h2
     by_cases ha:l.isAngle=true
     ·rw [List.filter_cons_of_neg (by simp [ha])]
      simpa using this
     ·rw [if_neg ha,decide_eq_true_eq] at h2
      rw [List.filter_cons_of_pos (by simpa using ha)]
      have:WAVES=128:=rfl
      simp only [List.filter_nil,List.length_cons,List.length_nil];omega
    ·rcases List.mem_append.mp hx with hx | hx
     ·exact R.large x hx
     ·simp at hx
      subst hx
      simpa using h3
    ·rcases List.eq_nil_or_concat r2 with rfl | ⟨r3,z,rfl⟩
     ·have e2:b=b2∧l=l2:=by
       have:=List.append_inj' e rfl
       exact⟨this.1,by simpa using this.2⟩
      obtain⟨rfl,rfl⟩:=e2
      have:=List.find?_eq_none.mp h4 x hx
      simpa using this
     ·have e2:b++[l]=(b2++l2::r3)++[z]:=by rw [e];simp
      exact R.uses b2 l2 r3 (List.append_inj' e2 rfl).1 x hx
theorem zG:∀(r before:List Line),cJz before→scan before r=none→cJz (before++r)
 | [],before,R,_=>by simpa using R
 | l::r,before,R,h=>by
  have h':(match firstWrong before l with | some f=>some f | none=>scan (before++[l]) r)=none:=h;cases e:firstWrong before l with
  | some f=>rw [e] at h';cases h'
  | none =>
   rw [e] at h'
   have:=zG r (before++[l]) (R.snoc e) h'
   simpa using this
end Ts


namespace Ts
open Tide
def toB (l:List Int):Bytes:=l.map fun (n:Int)=>UInt8.ofNat n.toNat
def isB (l:List Int):Bool:=l.all fun (z:Int)=>decide (0≤z)&&decide (z≤255)
inductive nM:List Int→TideSkies.Call→List Int→Prop where
 | sky (row t:List Int) (h:isB row=true):nM (0::(row.length:Int)::(row++t)) (.sky (toB row)) t
 | print (t:List Int):nM (1::t) .print t
 | size (t:List Int):nM (2::t) .size t
 | name (i:Nat) (t:List Int):nM (3::(i:Int)::t) (.name i) t
 | find (row t:List Int) (h:isB row=true):nM (4::(row.length:Int)::(row++t)) (.find (toB row)) t
 | speed (i:Nat) (t:List Int):nM (5::(i:Int)::t) (.speed i) t
 | place (i:Nat) (u b:Int) (t:List Int):nM (6::(i:Int)::u::b::t) (.place i u b) t
 | row (i:Nat) (u b:Int) (m:Nat) (t:List Int):nM (7::(i:Int)::u::b::(m:Int)::t) (.row i u b m) t
 | apart (i j m:Nat) (t:List Int):nM (8::(i:Int)::(j:Int)::(m:Int)::t) (.apart i j m) t
inductive Calls:List Int→List TideSkies.Call→Prop where
 | nil:Calls [] []
 | cons {l t:List Int} {c:TideSkies.Call} {cs:List TideSkies.Call} (h:nM l c t) (r:Calls t cs):Calls l (c::cs)
def due:TideSkies.State→List TideSkies.Call→List Int
 | _,[]=>[]
 | s,c::cs=>let a:=(TideSkies.step s c).2.nums
  (a.length:Int)::(a++due (TideSkies.step s c).1 cs)
theorem y4z {r x s:List Int} (h:PyFlat.row r=some (x,s)):r=(x.length:Int)::(x++s):=by
 cases r with
 | nil=>cases h
 | cons n r =>
  have h':(if 0≤n∧n.toNat≤r.length then some (r.take n.toNat,r.drop n.toNat) else none)=some (x,s):=h
  by_cases hn:0≤n∧n.toNat≤r.length
  ·rw [if_pos hn] at h'
   injection h' with h'
   injection h' with h1 h2
   subst h1 h2;rw [List.take_append_drop,List.length_take];congr 1;omega
  ·rw [if_neg hn] at h'
   cases h'
theorem rows1 {r:List Int} {xs:List (List Int)} {t:List Int} (h:PyFlat.rows 1 r=some (xs,t)):∃x,xs=[x]∧r=(x.length:Int)::(x++t):=by
 have h':(match PyFlat.row r with | none=>none | some (x,s)=>match PyFlat.rows 0 s with | none=>none | some (xs,t)=>some (x::xs,t))=some (xs,t):=h;cases e:PyFlat.row r with
 | none=>rw [e] at h';cases h'
 | some a =>
  obtain⟨x,s⟩:=a;rw [e] at h';have h2:some ([x],s)=some (xs,t):=h';injection h2 with h2
  injection h2 with h3 h4
  subst h3 h4;exact⟨x,rfl,y4z e⟩
theorem rows0 {r:List Int} {xs:List (List Int)} {t:List Int} (h:PyFlat.rows 0 r=some (xs,t)):xs=[]∧r=t:=by
 have h':some (([]:List (List Int)),r)=some (xs,t):=h;injection h' with h'
 injection h' with h1 h2
 exact⟨h1.symm,h2⟩
theorem rIz {t:List Int} (h:isB t=true):Tide.text? t=some (toB t):=by
 unfold Tide.text?;rw [if_pos (show NeutralIO.bytes t=true from h)];rfl
theorem mY {n:Int} (h:0≤n):Tide.nat? n=some n.toNat:=by
 unfold Tide.nat?;rw [if_pos h]
theorem yLz {l t:List Int} {c:List (List Int)} (h:PyFlat.call PyWqaccn.shape l=some (c,t)) (ha:TideSkiesNeutral.asked1 (PyWqaccn.whole c)=true) :
  ∃k,nM l k t∧TideSkiesNeutral.callOf (PyWqaccn.whole c)=some k:=by
 cases l with
 | nil=>cases h
 | cons p r =>
  have h':(match PyWqaccn.shape p with
   | none=>none
   | some (n,k)=>if r.length<n then none else match PyFlat.rows k (r.drop n) with
    | none=>none
    | some (xs,t)=>some ((p::r.take n)::xs,t))=some (c,t):=h
  have key:∀n k,PyWqaccn.shape p=some (n,k)→∃xs,n≤r.length∧PyFlat.rows k (r.drop n)=some (xs,t)∧c=(p::r.take n)::xs:=fun n k e=>by
   rw [e] at h';dsimp only at h'
   by_cases hl:r.length<n
   ·rw [if_pos hl] at h';cases h'
   ·rw [if_neg hl] at h'
    cases e2:PyFlat.rows k (r.drop n) with
    | none=>rw [e2] at h';cases h'
    | some a =>
     obtain⟨xs,t2⟩:=a;rw [e2] at h';dsimp only at h';injection h' with h'
     injection h' with h1 h2
     subst h2;exact⟨xs,by omega,rfl,h1.symm⟩
  have hp:p=0∨p=1∨p=2∨p=3∨p=4∨p=5∨p=6∨p=7∨p=8:=by
   unfold PyWqaccn.shape at h'
   by_cases h0:p=0;· exact .inl h0
   by_cases h1:p=1;· exact .inr (.inl h1)
   by_cases h2:p=2;· exact .inr (.inr (.inl h2))
   by_cases h3:p=3;· exact .inr (.inr (.inr (.inl h3)))
   by_cases h4:p=4;· exact .inr (.inr (.inr (.inr (.inl h4))))
   by_cases h5:p=5;· exact .inr (.inr (.inr (.inr (.inr (.inl h5)))))
   by_cases h6:p=6;· exact .inr (.inr (.inr (.inr (.inr (.inr (.inl h6))))))
   by_cases h7:p=7;· exact .inr (.inr (.inr (.inr (.inr (.inr (.inr (.inl h7)))))))
   by_cases h8:p=8;· exact .inr (.inr (.inr (.inr (.inr (.inr (.inr (.inr h8)))))))
   rw [if_neg h0,if_neg h1,if_neg h2,if_neg h3,if_neg h4,if_neg h5,if_neg h6,if_neg h7,if_neg h8] at h';cases h'
  rcases hp with rfl | rfl | rfl | rfl | rfl | rfl | rfl | rfl | rfl
  ·obtain⟨xs,_,e2,rfl⟩:=key 0 1 rfl
   obtain⟨x,rfl,e3⟩:=rows1 e2;rw [List.drop_zero] at e3;subst e3;have ha':isB x=true:=ha;refine⟨_,.sky x t ha',?_⟩;show (Tide.text? x).map TideSkies.Call.sky=_;rw [rIz ha'];rfl
  ·obtain⟨xs,_,e2,rfl⟩:=key 0 0 rfl
   obtain⟨rfl,e3⟩:=rows0 e2;rw [List.drop_zero] at e3;subst e3;exact⟨_,.print _,rfl⟩
  ·obtain⟨xs,_,e2,rfl⟩:=key 0 0 rfl
   obtain⟨rfl,e3⟩:=rows0 e2;rw [List.drop_zero] at e3;subst e3;exact⟨_,.size _,rfl⟩
  ·obtain⟨xs,hl,e2,rfl⟩:=key 1 0 rfl
   obtain⟨rfl,e3⟩:=rows0 e2
   match r,hl,e3,ha with
   | i::r,_,e3,ha =>
    have e3:r=t:=e3;subst e3;have ha':decide (0≤i)=true:=ha;rw [decide_eq_true_eq] at ha';obtain⟨i,rfl⟩:=Int.eq_ofNat_of_zero_le ha';refine⟨_,.name i r,?_⟩;show (Tide.nat? (i:Int)).map TideSkies.Call.name=_;rw [mY ha'];rfl
  ·obtain⟨xs,_,e2,rfl⟩:=key 0 1 rfl
   obtain⟨x,rfl,e3⟩:=rows1 e2;rw [List.drop_zero] at e3;subst e3;have ha':isB x=true:=ha;refine⟨_,.find x t ha',?_⟩;show (Tide.text? x).map TideSkies.Call.find=_;rw [rIz ha'];rfl
  ·obtain⟨xs,hl,e2,rfl⟩:=key 1 0 rfl
   obtain⟨rfl,e3⟩:=rows0 e2
   match r,hl,e3,ha with
   | i::r,_,e3,ha =>
    have e3:r=t:=e3;subst e3;have ha':decide (0≤i)=true:=ha;rw [decide_eq_true_eq] at ha';obtain⟨i,rfl⟩:=Int.eq_ofNat_of_zero_le ha';refine⟨_,.speed i r,?_⟩;show (Tide.nat? (i:Int)).map TideSkies.Call.speed=_;rw [mY ha'];rfl
  ·obtain⟨xs,hl,e2,rfl⟩:=key 3 0 rfl
   obtain⟨rfl,e3⟩:=rows0 e2
   match r,hl,e3,ha with
   | i::u::b::r,_,e3,ha =>
    have e3:r=t:=e3;subst e3;have ha':decide (0≤i)=true:=ha;rw [decide_eq_true_eq] at ha';obtain⟨i,rfl⟩:=Int.eq_ofNat_of_zero_le ha';refine⟨_,.place i u b r,?_⟩;show (Tide.nat? (i:Int)).map (fun (k:Nat)=>TideSkies.Call.place k u b)=_;rw [mY ha'];rfl
   | [],hl,_,_=>exact absurd hl (by simp)
   | [_],hl,_,_=>exact absurd hl (by simp)
   | [_,_],hl,_,_=>exact absurd hl (by simp)
  ·obtain⟨xs,hl,e2,rfl⟩:=key 4 0 rfl
   obtain⟨rfl,e3⟩:=rows0 e2
   match r,hl,e3,ha with
   | i::u::b::m::r,_,e3,ha =>
    have e3:r=t:=e3;subst e3;have ha':(decide (0≤i)&&decide (0≤m))=true:=ha;rw [Bool.and_eq_true,decide_eq_true_eq,decide_eq_true_eq] at ha';obtain⟨i,rfl⟩:=Int.eq_ofNat_of_zero_le ha'.1;obtain⟨m,rfl⟩:=Int.eq_ofNat_of_zero_le ha'.2;refine⟨_,.row i u b m r,?_⟩;show Option.bind (Tide.nat? (i:Int)) (fun i=>Option.bind (Tide.nat? (m:Int)) fun m=>some (TideSkies.Call.row i u b m))=_;rw [mY ha'.1,mY ha'.2];rfl
   | [],hl,_,_=>exact absurd hl (by simp)
   | [_],hl,_,_=>exact absurd hl (by simp)
   | [_,_],hl,_,_=>exact absurd hl (by simp)
   | [_,_,_],hl,_,_=>exact absurd hl (by simp)
  ·obtain⟨xs,hl,e2,rfl⟩:=key 3 0 rfl
   obtain⟨rfl,e3⟩:=rows0 e2
   match r,hl,e3,ha with
   | i::j::m::r,_,e3,ha =>
    have e3:r=t:=e3;subst e3;have ha':(decide (0≤i)&&(decide (0≤j)&&decide (0≤m)))=true:=ha;rw [Bool.and_eq_true,Bool.and_eq_true,decide_eq_true_eq,decide_eq_true_eq,decide_eq_true_eq] at ha';obtain⟨i,rfl⟩:=Int.eq_ofNat_of_zero_le ha'.1;obtain⟨j,rfl⟩:=Int.eq_ofNat_of_zero_le ha'.2.1;obtain⟨m,rfl⟩:=Int.eq_ofNat_of_zero_le ha'.2.2;refine⟨_,.apart i j m r,?_⟩;show Option.bind (Tide.nat? (i:Int)) (fun i=>Option.bind (Tide.nat? (j:Int)) fun j=>Option.bind (Tide.nat? (m:Int)) fun m=>some (TideSkies.Call.apart i j m))=_;rw [mY ha'.1,mY ha'.2.1,mY ha'.2.2];rfl
   | [],hl,_,_=>exact absurd hl (by simp)
   | [_],hl,_,_=>exact absurd hl (by simp)
   | [_,_],hl,_,_=>exact absurd hl (by simp)
theorem iSz:∀(f:Nat) (l:List Int) {cs:List (List (List Int))},PyFlat.calls PyWqaccn.shape f l=some cs→(cs.map PyWqaccn.whole).all TideSkiesNeutral.asked1=true→
  ∃ks,Calls l ks∧ks.length=cs.length∧∀s,PyFlat.told (PyFlat.played TideSkiesNeutral.step s (cs.map PyWqaccn.whole))=due s ks
 | f,[],cs,h,_=>by
  have h':some []=some cs:=by
   cases f <;> exact h
  injection h' with h'
  subst h';exact⟨[],.nil,rfl,fun s=>rfl⟩
 | 0,_::_,cs,h,_=>by cases h
 | f+1,p::r,cs,h,ha=>by
  have h':(match PyFlat.call PyWqaccn.shape (p::r) with
   | none=>none
   | some (c,t)=>match PyFlat.calls PyWqaccn.shape f t with
    | none=>none
    | some cs=>some (c::cs))=some cs:=h
  cases e:PyFlat.call PyWqaccn.shape (p::r) with
  | none=>rw [e] at h';cases h'
  | some a =>
   obtain⟨c,t⟩:=a;rw [e] at h';dsimp only at h';cases e2:PyFlat.calls PyWqaccn.shape f t with
   | none=>rw [e2] at h';cases h'
   | some cs2 =>
    rw [e2] at h';dsimp only at h';injection h' with h'
    subst h';rw [List.map_cons,List.all_cons,Bool.and_eq_true] at ha;obtain⟨k,hk,hc⟩:=yLz e ha.1;obtain⟨ks,K,hl,hd⟩:=iSz f t e2 ha.2;refine⟨k::ks,.cons hk K,by simp [hl],fun s=>?_⟩;have hs:TideSkiesNeutral.step s (PyWqaccn.whole c)=((TideSkies.step s k).1,(TideSkies.step s k).2.nums):=by
     unfold TideSkiesNeutral.step;rw [hc]
    show PyFlat.told ((TideSkiesNeutral.step s (PyWqaccn.whole c)).2::PyFlat.played TideSkiesNeutral.step (TideSkiesNeutral.step s (PyWqaccn.whole c)).1 (cs2.map PyWqaccn.whole))=_;rw [hs];show ((TideSkies.step s k).2.nums::PyFlat.played TideSkiesNeutral.step (TideSkies.step s k).1 (cs2.map PyWqaccn.whole)).flatMap (fun a=>(a.length:Int)::a)=due s (k::ks);rw [List.flatMap_cons]
    have:=hd (TideSkies.step s k).1
    unfold PyFlat.told at this;rw [this];rfl
theorem qLz {l:List Int} (h:PyWqaccn.answers_asked l=true):∃ks,Calls l ks∧ks.length≤400∧PyWqaccn.answers l=due none ks:=by
 unfold PyWqaccn.answers_asked at h;unfold PyWqaccn.answers;unfold PyWqaccn.calls at h ⊢;cases e:PyFlat.calls PyWqaccn.shape l.length l with
 | none=>rw [e] at h;cases h
 | some cs =>
  rw [e] at h;dsimp only at h ⊢;rw [Bool.and_eq_true] at h;obtain⟨h1,h2⟩:=h;unfold PyFlat.atMost at h1;rw [decide_eq_true_eq,List.length_map] at h1;unfold TideSkiesNeutral.asked at h2;rw [Bool.and_eq_true] at h2;obtain⟨ks,K,hl,hd⟩:=iSz l.length l e h2.2;exact⟨ks,K,by omega,hd none⟩
end Ts


namespace Ts
open Tide
def nums (b:Bytes):List Nat:=b.map (·.toNat)
theorem sCz (a b:Bytes):nums (a++b)=nums a++nums b:=List.map_append
theorem pR (n:Nat):nums (digitsOf n)=(Nat.toDigits 10 n).map Char.toNat:=by
 unfold nums;rw [lZ,List.map_map];refine List.map_congr_left fun c hc=>?_
 have:=Nat.isDigit_of_mem_toDigits (by decide) (by decide) hc
 simp only [Char.isDigit,Bool.and_eq_true,decide_eq_true_eq] at this;have h2:c.val≤57:=this.2
 have:c.val.toNat≤57:=h2
 show (UInt8.ofNat c.toNat).toNat=c.toNat;rw [UInt8.toNat_ofNat']
 have:c.toNat=c.val.toNat:=rfl
 omega
def shornN (l:List Nat):List Nat:=(l.reverse.dropWhile fun x=>x == 48).reverse
theorem tZz (b:Bytes):nums (shorn b)=shornN (nums b):=by
 unfold nums shorn shornN;rw [← List.map_reverse,List.dropWhile_map,List.map_reverse];refine congrArg (fun p=>(List.map (fun x:UInt8=>x.toNat) (List.dropWhile p b.reverse)).reverse) ?_;funext x;show (x == 48)=(x.toNat == 48);cases h:(x == 48) with
 | true =>
  have:x=48:=by simpa using h
  subst this;rfl
 | false =>
  have:x≠48:=by simpa using h
  symm;rw [beq_eq_false_iff_ne];intro z;exact this (UInt8.toNat.inj z)
theorem pKz (n:Nat):nums (twelve n)=List.replicate (12-(nums (digitsOf n)).length) 48++nums (digitsOf n):=by
 unfold nums twelve;rw [List.map_append,List.map_replicate,List.length_map];rfl
def numberN (x:Int):List Nat :=
 (if x<0 then [45] else [])++((Nat.toDigits 10 (x.natAbs/10 ^ 12)).map Char.toNat ++
  (let f:=shornN (List.replicate (12-((Nat.toDigits 10 (x.natAbs%10 ^ 12)).map Char.toNat).length) 48++(Nat.toDigits 10 (x.natAbs%10 ^ 12)).map Char.toNat)
  (if f=[] then [] else [46])++f))
theorem tWz (n:Nat) (h:n<10 ^ 12) (hz:shorn (twelve n)=[]):n=0:=by
 rw [tN h] at hz;have all0:∀(k m:Nat),(∀x∈pad k m,x=48)→m<10 ^ k→m=0:=by
  intro k
  induction k with
  | zero=>intro m _ hm;simpa using hm
  | succ k ih =>
   intro m hm hl;have h1:=ih (m/10) (fun x hx=>hm x (by rw [pad];exact List.mem_append_left _ hx)) (by rw [Nat.pow_succ] at hl;omega);have h2:dg m=48:=hm _ (by rw [pad];exact List.mem_append_right _ (List.mem_singleton_self _));have h3:(dg m).toNat=48:=by rw [h2];rfl
   unfold dg at h3;rw [UInt8.toNat_ofNat'] at h3;omega
 refine all0 12 n (fun x hx=>?_) h;unfold shorn at hz;have hz2:(pad 12 n).reverse.dropWhile (fun x=>x == 48)=[]:=by simpa using hz
 have dw:∀l:Bytes,l.dropWhile (fun x=>x == 48)=[]→∀x∈l,x=48:=by
  intro l
  induction l with
  | nil=>intro _ x hx;cases hx
  | cons a l ih =>
   intro hl x hx;rw [List.dropWhile_cons] at hl;split at hl
   ·rename_i ha
    rcases List.mem_cons.mp hx with z | z
    ·rw [z];simpa using ha
    ·exact ih hl x z
   ·cases hl
 exact dw _ hz2 x (by simpa using hx)
theorem tPz:shorn (twelve 0)=[]:=by decide +kernel
theorem b8z (x:Int):nums (printNumber x)=numberN x:=by
 unfold printNumber numberN;dsimp only;rw [sCz,sCz,← pR,← pR,← pKz,← tZz];congr 1
 ·split <;> rfl
 ·congr 1
  have hlt:x.natAbs%10 ^ 12<10 ^ 12:=Nat.mod_lt _ (by decide)
  by_cases hz:x.natAbs%10 ^ 12=0
  ·rw [if_pos hz,hz,tPz]
   rfl
  ·rw [if_neg hz]
   have hn:nums (shorn (twelve (x.natAbs%10 ^ 12)))≠[]:=fun z=>hz (tWz _ hlt (List.map_eq_nil_iff.mp z));rw [if_neg hn];rfl
end Ts


namespace Ts
open Tide
def Aff (f:Int→Int):Prop := ∀t,f t=f 0+(f 1-f 0)*t
theorem Aff.lin (p r:Int):Aff fun t=>p+r*t:=fun t=>by
 show p+r*t=p+r*0+(p+r*1-(p+r*0))*t;rw [Int.mul_zero,Int.add_zero,Int.mul_one,Int.add_comm p r,Int.add_sub_cancel]
theorem Aff.mul {f:Int→Int} (c:Int) (h:Aff f):Aff fun t=>c*f t:=fun t=>by
 show c*f t=c*f 0+(c*f 1-c*f 0)*t;rw [h t,Int.mul_add,← Int.mul_sub,Int.mul_assoc]
theorem Aff.add {f g:Int→Int} (h:Aff f) (k:Aff g):Aff fun t=>f t+g t:=fun t=>by
 show f t+g t=f 0+g 0+(f 1+g 1-(f 0+g 0))*t;rw [h t,k t,show f 1+g 1-(f 0+g 0)=(f 1-f 0)+(g 1-g 0) by omega,Int.add_mul];omega
theorem Aff.const (c:Int):Aff fun _=>c:=fun t=>by
 show c=c+(c-c)*t;rw [Int.sub_self,Int.zero_mul,Int.add_zero]
theorem Aff.sum {α : Type} {h : α→Int→Int}:∀(s:List α),(∀x∈s,Aff (h x))→Aff fun t=>sumInt (s.map fun x=>h x t)
 | [],_=>Aff.const 0
 | x::r,hx=>(hx x (List.mem_cons_self ..)).add (Aff.sum r fun y hy=>hx y (List.mem_cons_of_mem _ hy))
theorem bVz (L:List Line) (s:List Term):Aff fun t=>anglesAt L s t:=Aff.sum s fun x _=>Aff.mul x.times (Aff.lin _ _)
theorem eMz (L:List Line) (s:List Term) (q:Nat):Aff fun t=>plainAt L s q t:=(bVz L s).add (Aff.const _)
def Aof (L:List Line):Line→Int→Int
 | .angle _ _ p r,t=>60*p+r*t
 | .wave n p s q fs ss,t=>argument L (.wave n p s q fs ss) t
 | .sum n p s,t=>argument L (.sum n p s) t
theorem DHz (L:List Line):∀l,Aff (Aof L l)
 | .angle _ _ p r=>Aff.lin (60*p) r
 | .wave n p s q fs ss=>eMz L s q
 | .sum n p s=>Aff.sum s fun x _=>by
  cases waveOf L x.name with
  | none=>exact Aff.const 0
  | some w=>cases w with
   | angle=>exact Aff.const 0
   | sum=>exact Aff.const 0
   | wave _ _ s q _ _=>exact Aff.mul x.times (eMz L s q)
theorem qWz {L:List Line} {l:Line} (h:l.isAngle=false) (t:Int):Aof L l t=argument L l t:=by cases l <;> first | rfl | cases h
def AN (L:List Line) (n:Bytes) (t:Int):Int:=match L.find? fun l=>l.name == n with
 | some l=>Aof L l t
 | none=>0
def TA (L:List Line) (s:List Term) (t:Int):Int:=sumInt (s.map fun x=>x.times*AN L x.name t)
theorem kHz {L:List Line} (hn:(L.map Line.name).Nodup) {y:Line} (hy:y∈L) (q:Line→Bool) (hq:q y=true):(L.find? fun l=>q l&&l.name == y.name)=some y:=by
 induction L with
 | nil=>cases hy
 | cons x r ih =>
  rw [List.map_cons,List.nodup_cons] at hn;rcases List.mem_cons.mp hy with rfl | hy
  ·rw [List.find?_cons_of_pos]
   rw [hq];exact beq_self_eq_true _
  ·rw [List.find?_cons_of_neg,ih hn.2 hy]
   intro z;have z2:=(Bool.and_eq_true _ _ ▸ z:_∧_).2;have z3:x.name=y.name:=eq_of_beq z2;exact hn.1 (z3 ▸ List.mem_map_of_mem hy)
theorem fSz {L:List Line} (hn:(L.map Line.name).Nodup) {y:Line} (hy:y∈L):(L.find? fun l=>l.name == y.name)=some y:=by
 have:=kHz hn hy (fun _=>true) rfl
 simpa using this
theorem uVz {L:List Line} (hn:(L.map Line.name).Nodup) {y:Line} (hy:y∈L) (ha:y.isAngle=true) (t:Int):60*(angleOf L y.name).1+(angleOf L y.name).2*t=AN L y.name t:=by
 unfold angleOf AN;rw [kHz hn hy _ ha,fSz hn hy];cases y with
 | angle=>rfl
 | wave=>cases ha
 | sum=>cases ha
theorem wY {L:List Line} (hn:(L.map Line.name).Nodup) {y:Line} (hy:y∈L) (ha:y.isWave=true):waveOf L y.name=some y:=kHz hn hy _ ha
theorem xE {α : Type} {f g : α→Int} {s:List α} (h:∀x∈s,f x=g x):sumInt (s.map f)=sumInt (s.map g):=congrArg sumInt (List.map_congr_left h)
theorem f2z {L:List Line} (hn:(L.map Line.name).Nodup) {s:List Term} (h:∀x∈s,∃y∈L,y.isAngle=true∧y.name=x.name) (t:Int):anglesAt L s t=TA L s t :=
 xE fun x hx=>by
  obtain⟨y,h1,h2,h3⟩:=h x hx;rw [← h3,uVz hn h1 h2]
theorem qJz {L:List Line} (hn:(L.map Line.name).Nodup) {n:Bytes} {p:Nat} {s:List Term} (h:∀x∈s,∃y∈L,y.isWave=true∧y.name=x.name) (t:Int):argument L (.sum n p s) t=TA L s t :=
 xE fun x hx=>by
  obtain⟨y,h1,h2,h3⟩:=h x hx;rw [← h3,wY hn h1 h2];unfold AN;rw [fSz hn h1];cases y with
  | angle=>cases h2
  | sum=>cases h2
  | wave=>rfl
structure Sky (L:List Line):Prop where
 right:cJz L
 ok:∀l∈L,dW l
theorem zXz {b:List Line} {l:Line} {x:Term} (h:found b l x=true):∃y∈b,(if l.isWave=true then y.isAngle else y.isWave)=true∧y.name=x.name:=by
 unfold found at h;obtain⟨y,h1,h2⟩:=List.any_eq_true.mp h;have h3:=(Bool.and_eq_true _ _ ▸ h2:_∧_);exact⟨y,h1,h3.1,eq_of_beq h3.2⟩
theorem Sky.used {L b r:List Line} {l:Line} (S:Sky L) (e:L=b++l::r) {x:Term} (hx:x∈l.uses):∃y∈b,(if l.isWave=true then y.isAngle else y.isWave)=true∧y.name=x.name:=zXz (S.right.uses b l r e x hx)
theorem oA {α : Type} {f : α→Int} {M:Nat}:∀{s:List α},(∀x∈s,(f x).natAbs≤M)→(sumInt (s.map f)).natAbs≤s.length*M
 | [],_=>Nat.zero_le _
 | x::r,h=>by
  have h1:=h x (List.mem_cons_self ..);have h2:=oA (s:=r) fun y hy=>h y (List.mem_cons_of_mem _ hy);show (f x+sumInt (r.map f)).natAbs≤(r.length+1)*M;rw [Nat.add_mul,Nat.one_mul]
  have:=Int.natAbs_add_le (f x) (sumInt (r.map f))
  omega
theorem jD (x:Term):x.times.natAbs=x.count:=by
 unfold Term.times;split <;> omega
theorem kPz {L:List Line} (h:∀l∈L,dW l) (n:Bytes):(angleOf L n).1.natAbs<10 ^ 15∧(angleOf L n).2.natAbs<10 ^ 15:=by
 unfold angleOf;cases hf:L.find? fun l=>l.isAngle&&l.name == n with
 | none=>exact⟨by decide,by decide⟩
 | some l =>
  have hm:=List.mem_of_find?_eq_some hf
  have:=h l hm
  cases this with
  | angle hn hx hy=>exact⟨hx,hy⟩
  | wave=>exact⟨show (0:Int).natAbs<10 ^ 15 by decide,show (0:Int).natAbs<10 ^ 15 by decide⟩
  | sum=>exact⟨show (0:Int).natAbs<10 ^ 15 by decide,show (0:Int).natAbs<10 ^ 15 by decide⟩
theorem nY {L:List Line} (h:∀l∈L,dW l) {s:List Term} (hs:hEz s) {t:Int} (ht:t=0∨t=1):(anglesAt L s t).natAbs≤2 ^ 63:=by
 have key:∀x∈s,(x.times*(60*(angleOf L x.name).1+(angleOf L x.name).2*t)).natAbs≤15*(61*10 ^ 15):=fun x hx=>by
  rw [Int.natAbs_mul,jD];obtain⟨h1,h2⟩:=kPz h x.name;refine Nat.mul_le_mul (hs.cnts x hx).2 ?_;rcases ht with rfl | rfl
  ·rw [Int.mul_zero];omega
  ·rw [Int.mul_one];omega
 have:=oA key
 unfold anglesAt;have hl:=hs.len.2;refine Nat.le_trans this (Nat.le_trans (Nat.mul_le_mul_right _ hl) (by decide))
theorem xZ {L:List Line} (h:∀l∈L,dW l) {s:List Term} (hs:hEz s) {q:Nat} (hq:q≤3) {t:Int} (ht:t=0∨t=1):(plainAt L s q t).natAbs≤2 ^ 64:=by
 unfold plainAt;have h1:=nY h hs ht;have h2:q*(UNIT/4)≤3*(UNIT/4):=Nat.mul_le_mul_right _ hq;have h3:3*(UNIT/4)≤2 ^ 63:=by decide
 have:=Int.natAbs_add_le (anglesAt L s t) ((q*(UNIT/4):Nat):Int)
 rw [Int.natAbs_natCast] at this;omega
theorem oFz {L:List Line} (h:∀l∈L,dW l) {l:Line} (hl:dW l) {t:Int} (ht:t=0∨t=1):(Aof L l t).natAbs≤2 ^ 71:=by
 cases hl with
 | angle hn hx hy =>
  rename_i n p x y;show (60*x+y*t).natAbs≤2 ^ 71;rcases ht with rfl | rfl
  ·rw [Int.mul_zero];omega
  ·rw [Int.mul_one];omega
 | wave hn hs hq hf hg lf ls=>exact Nat.le_trans (xZ h hs hq ht) (by decide)
 | sum hn hs =>
  rename_i n p s
  have key:∀x∈s,(match waveOf L x.name with
    | some (.wave _ _ s q _ _)=>x.times*plainAt L s q t
    | _=>0).natAbs≤15*2 ^ 64:=fun x hx=>by
   cases hw:waveOf L x.name with
   | none=>exact Nat.zero_le _
   | some w =>
    have hm:=List.mem_of_find?_eq_some (show L.find? _=some w from hw);have hok:=h w hm;cases hok with
    | angle=>exact Nat.zero_le _
    | sum=>exact Nat.zero_le _
    | wave hn hs' hq _ _ _ _ =>
     show (x.times*plainAt L _ _ t).natAbs≤_;rw [Int.natAbs_mul,jD];exact Nat.mul_le_mul (hs.cnts x hx).2 (xZ h hs' hq ht)
  have:=oA key
  refine Nat.le_trans this (Nat.le_trans (Nat.mul_le_mul_right _ hs.len.2) (by decide))
def org (L:List Line) (l:Line):Int:=Aof L l 0
def gro (L:List Line) (l:Line):Int:=Aof L l 1-Aof L l 0
theorem Aof_at (L:List Line) (l:Line) (t:Int):org L l+gro L l*t=Aof L l t:=(DHz L l t).symm
theorem oU {L:List Line} (h:∀l∈L,dW l) {l:Line} (hl:dW l):(org L l).natAbs≤2 ^ 72∧(gro L l).natAbs≤2 ^ 72:=by
 have h0:=oFz h hl (t:=0) (.inl rfl);have h1:=oFz h hl (t:=1) (.inr rfl);unfold org gro;omega
theorem fGz {L:List Line} {l:Line} (h:l.isAngle=false):gro L l=speed L l:=by
 unfold gro speed;rw [qWz h,qWz h]
end Ts


namespace Ts
open Tide
def memOf (L:List Line) (x:Term):Int×List Part×List Part:=match waveOf L x.name with
 | some (.wave _ _ _ _ fs ss)=>(x.times,fs,ss)
 | _=>(0,[],[])
def mems (L:List Line):Line→List (Int×List Part×List Part)
 | .wave _ _ _ _ fs ss=>[(1,fs,ss)]
 | .sum _ _ s=>s.map (memOf L)
 | .angle _ _ _ _=>[]
theorem hRz (L:List Line) (l:Line) (b:Int):shift L l b=sumInt ((mems L l).map fun z=>z.1*plainShift L z.2.2 b):=by
 cases l with
 | angle=>rfl
 | wave n p s q fs ss =>
  show plainShift L ss b=1*plainShift L ss b+0;rw [Int.one_mul,Int.add_zero]
 | sum n p s =>
  show sumInt (s.map _)=sumInt ((s.map (memOf L)).map _);rw [List.map_map];refine xE fun x _=>?_;show _=(memOf L x).1*plainShift L (memOf L x).2.2 b;unfold memOf;cases waveOf L x.name with
  | none=>exact (Int.zero_mul _).symm
  | some w=>cases w with
   | angle=>exact (Int.zero_mul _).symm
   | sum=>exact (Int.zero_mul _).symm
   | wave=>rfl
structure z7z (z:Int×List Part×List Part):Prop where
 cnt:z.1.natAbs≤15
 fac:∀p∈z.2.1,vG p
 shf:∀p∈z.2.2,vG p
 lf:z.2.1.length≤8
 ls:z.2.2.length≤8
 lrg:sumNat (z.2.1.map fun p=>p.number.natAbs)<10 ^ 12
theorem qYz {L:List Line} (S:Sky L) {n:Bytes} {p:Nat} {s:List Term} {q:Nat} {fs ss:List Part} (h:Line.wave n p s q fs ss∈L) {c:Int} (hc:c.natAbs≤15):z7z (c,fs,ss):=by
 have hok:=S.ok _ h;have hl:=S.right.large _ h;cases hok with
 | wave hn hs ht hf hg lf ls =>
  refine⟨hc,hf,hg,lf,ls,?_⟩
  have:decide (10 ^ 12≤sumNat (fs.map fun p:Part=>p.number.natAbs))=false:=hl
  exact Nat.lt_of_not_le (of_decide_eq_false this)
theorem pSz {L:List Line} (S:Sky L) {l:Line} (h:l∈L):∀z∈mems L l,z7z z:=by
 cases l with
 | angle=>intro z hz;cases hz
 | wave n p s q fs ss =>
  intro z hz;rw [List.mem_singleton.mp hz];exact qYz S h (by decide)
 | sum n p s =>
  intro z hz;obtain⟨x,hx,rfl⟩:=List.mem_map.mp hz;have hok:=S.ok _ h;cases hok with
  | sum hn hs =>
   have hc:=(hs.cnts x hx).2;unfold memOf;have e0:z7z (0,[],[]):=⟨by decide,fun p hp=>(by cases hp),fun p hp=>(by cases hp),by decide,by decide,by decide⟩;cases hw:waveOf L x.name with
   | none=>exact e0
   | some w =>
    have hm:=List.mem_of_find?_eq_some (show L.find? _=some w from hw);cases w with
    | angle=>exact e0
    | sum=>exact e0
    | wave=>exact qYz S hm (by rw [jD];exact hc)
theorem zJz {L:List Line} (S:Sky L) {l:Line} (h:l∈L):(mems L l).length≤8:=by
 cases l with
 | angle=>exact Nat.zero_le _
 | wave=>show 1≤8;decide
 | sum n p s =>
  have hok:=S.ok _ h;cases hok with
  | sum hn hs=>show (s.map (memOf L)).length≤8;rw [List.length_map];exact hs.len.2
def cnts (zs:List (Int×List Part×List Part)):Nat:=sumNat (zs.map fun z=>z.1.natAbs)
theorem tNz (l m:List Nat):sumNat (l++m)=sumNat l+sumNat m:=by
 induction l with
 | nil=>exact (Nat.zero_add _).symm
 | cons x r ih =>
  show x+sumNat (r++m)=x+sumNat r+sumNat m;rw [ih,Nat.add_assoc]
theorem sWz (l m:List (Int×List Part×List Part)):cnts (l++m)=cnts l+cnts m:=by
 unfold cnts;rw [List.map_append,tNz]
theorem wUz {L b r:List Line} (S:Sky L) {l:Line} (e:L=b++l::r):cnts (mems L l)≤12:=by
 have h:l∈L:=by rw [e];exact List.mem_append_right _ (List.mem_cons_self ..)
 cases l with
 | angle=>exact Nat.zero_le _
 | wave=>show 1+0≤12;decide
 | sum n p s =>
  have hl:=S.right.large _ h;have hl':decide (COUNTS<sumNat (s.map fun x:Term=>x.count))=false:=hl;have hle:=Nat.le_of_not_lt (of_decide_eq_false hl');refine Nat.le_trans (Nat.le_of_eq ?_) hle;unfold cnts;show sumNat ((s.map (memOf L)).map _)=_;rw [List.map_map];refine congrArg sumNat (List.map_congr_left fun x hx=>?_);show (memOf L x).1.natAbs=x.count;obtain⟨y,h1,h2,h3⟩:=S.used e (l := .sum n p s) hx;have hy:y∈L:=by rw [e];exact List.mem_append_left _ h1
  have h2':y.isWave=true:=h2;unfold memOf;rw [← h3,wY S.right.names hy h2'];cases y with
  | angle=>cases h2'
  | sum=>cases h2'
  | wave=>exact jD x
def prodI (l:List Int):Int:=l.foldr (fun a b=>a*b) 1
theorem wDz (l m:List Int):prodI (l++m)=prodI l*prodI m:=by
 induction l with
 | nil=>exact (Int.one_mul _).symm
 | cons x r ih =>
  show x*prodI (r++m)=x*prodI r*prodI m;rw [ih,Int.mul_assoc]
def facs (L:List Line) (b:Int) (zs:List (Int×List Part×List Part)):Int:=prodI (zs.map fun z=>plainFactor L z.2.1 b ^ z.1.natAbs)
theorem xVz (L:List Line) (b:Int) (zs:List (Int×List Part×List Part)) (z:Int×List Part×List Part):facs L b (zs++[z])=facs L b zs*plainFactor L z.2.1 b ^ z.1.natAbs:=by
 unfold facs;rw [List.map_append,wDz];refine congrArg _ ?_;show _*1=_;rw [Int.mul_one]
theorem pNz (x:Int):nearest (2 ^ 30*x) (2 ^ 30)=x:=by
 unfold nearest
 have:(2*(2 ^ 30*x)+((2 ^ 30:Nat):Int))=2147483648*x+1073741824:=by
  rw [show ((2 ^ 30:Nat):Int)=1073741824 from rfl];omega
 rw [this,show (2:Int)*((2 ^ 30:Nat):Int)=2147483648 from rfl];omega
theorem p8z {L c r:List Line} (S:Sky L) {l:Line} (e:L=c++l::r) (hA:l.isAngle=false) (b:Int):factor L l b=nearest (2 ^ 30*facs L b (mems L l)) (2 ^ (30*cnts (mems L l))):=by
 cases l with
 | angle=>cases hA
 | wave n p s q fs ss =>
  show plainFactor L fs b=nearest (2 ^ 30*(plainFactor L fs b ^ 1*1)) (2 ^ (30*(1+0)));rw [Int.mul_one,show plainFactor L fs b ^ 1=plainFactor L fs b from by rw [Int.pow_succ,Int.pow_zero,Int.one_mul]];exact (pNz _).symm
 | sum n p s =>
  have hz:∀x∈s,∃fs ss,memOf L x=(x.times,fs,ss)∧(match waveOf L x.name with
    | some (.wave _ _ _ _ fs _)=>plainFactor L fs b ^ x.count
    | _=>1)=plainFactor L fs b ^ x.count:=fun x hx=>by
   obtain⟨y,h1,h2,h3⟩:=S.used e (l := .sum n p s) hx;have hy:y∈L:=by rw [e];exact List.mem_append_left _ h1
   have h2':y.isWave=true:=h2;unfold memOf;rw [← h3,wY S.right.names hy h2'];cases y with
   | angle=>cases h2'
   | sum=>cases h2'
   | wave _ _ _ _ fs ss=>exact⟨fs,ss,rfl,rfl⟩
  unfold factor facs cnts;show nearest (2 ^ 30*prodI (s.map _)) (2 ^ (30*sumNat (s.map _)))=nearest (2 ^ 30*prodI ((s.map (memOf L)).map _)) (2 ^ (30*sumNat ((s.map (memOf L)).map _)));rw [List.map_map,List.map_map]
  have e1:(s.map fun x=>match waveOf L x.name with
    | some (.wave _ _ _ _ fs _)=>plainFactor L fs b ^ x.count
    | _=>1)=s.map ((fun z:Int×List Part×List Part=>plainFactor L z.2.1 b ^ z.1.natAbs) ∘ memOf L):=List.map_congr_left fun x hx=>by
   obtain⟨fs,ss,z1,z2⟩:=hz x hx;rw [z2];show _=plainFactor L (memOf L x).2.1 b ^ (memOf L x).1.natAbs;rw [z1,jD]
  have e2:(s.map fun x:Term=>x.count)=s.map ((fun z:Int×List Part×List Part=>z.1.natAbs) ∘ memOf L):=List.map_congr_left fun x hx=>by
   obtain⟨fs,ss,z1,_⟩:=hz x hx;show _=(memOf L x).1.natAbs;rw [z1,jD]
  rw [← e2];exact congrArg (fun z=>nearest (2 ^ 30*prodI z) (2 ^ (30*sumNat (s.map fun x:Term=>x.count)))) e1
theorem hMz {f g:Part→Int} {M:Nat}:∀{s:List Part},(∀p∈s,(g p).natAbs≤M)→(sumInt (s.map fun p=>f p*g p)).natAbs≤sumNat (s.map fun p=>(f p).natAbs)*M
 | [],_=>Nat.zero_le _
 | x::r,h=>by
  have h1:=h x (List.mem_cons_self ..);have h2:=hMz (f:=f) (s:=r) fun y hy=>h y (List.mem_cons_of_mem _ hy);show (f x*g x+sumInt (r.map fun p=>f p*g p)).natAbs≤((f x).natAbs+sumNat (r.map fun p=>(f p).natAbs))*M;rw [Nat.add_mul];have h3:=Int.natAbs_add_le (f x*g x) (sumInt (r.map fun p=>f p*g p));rw [Int.natAbs_mul] at h3;have h4:=Nat.mul_le_mul_left (f x).natAbs h1;omega
theorem mMz {x:Int} {k:Nat} (h:x.natAbs≤2 ^ k) (n:Nat):(x ^ n).natAbs≤2 ^ (k*n):=by
 rw [Int.natAbs_pow,Nat.pow_mul];exact Nat.pow_le_pow_left h n
theorem iNz {L:List Line} {b:Int} {k:Nat}:∀{zs:List (Int×List Part×List Part)},(∀z∈zs,(plainFactor L z.2.1 b).natAbs≤2 ^ k)→(facs L b zs).natAbs≤2 ^ (k*cnts zs)
 | [],_=>by show (1:Int).natAbs≤2 ^ (k*0);rw [Nat.mul_zero];decide
 | z::r,h=>by
  have h1:=mMz (h z (List.mem_cons_self ..)) z.1.natAbs;have h2:=iNz (zs:=r) fun y hy=>h y (List.mem_cons_of_mem _ hy);show (plainFactor L z.2.1 b ^ z.1.natAbs*facs L b r).natAbs≤2 ^ (k*(z.1.natAbs+cnts r));rw [Int.natAbs_mul,Nat.mul_add,Nat.pow_add];exact Nat.mul_le_mul h1 h2
end Ts


namespace Td
open PySem PySem.Spec PyProof.Rows L2
def top (i:Nat):Stmt:=PySem.Challenge.pw_tideskies_s01_answers.main.body.getD i (.Pass ⟨0,0,0,0⟩)
abbrev eIz:Stmt:=inClass (top 6) 0
abbrev bDz:Stmt:=inClass (top 7) 0
abbrev rF:Stmt:=inClass (top 8) 0
abbrev rZ:Stmt:=inClass (top 9) 0
abbrev uR:Stmt:=inClass (top 10) 0
abbrev uU:Stmt:=inClass (top 20) 0
abbrev o8z:Stmt:=top 25
abbrev uQ:Stmt:=top 26
abbrev xP:Stmt:=top 27
abbrev hTz:Stmt:=top 28
abbrev v2z:Stmt:=top 31
abbrev hXz:Stmt:=top 32
abbrev eCz:Stmt:=top 33
abbrev rY:Stmt:=top 35
abbrev uP:Stmt:=top 36
abbrev qY:Stmt:=top 37
abbrev rX:Stmt:=top 38
abbrev d4z:Stmt:=top 39
abbrev xN:Stmt:=top 40
abbrev xT:Stmt:=inClass (top 46) 0
abbrev sA:Stmt:=inClass (top 46) 1
abbrev uS:Stmt:=inClass (top 46) 2
abbrev xR:Stmt:=inClass (top 46) 3
abbrev xQ:Stmt:=inClass (top 46) 4
abbrev lM:Stmt:=inClass (top 46) 5
abbrev mT:Stmt:=inClass (top 46) 6
abbrev xS:Stmt:=inClass (top 46) 7
abbrev bBz:Stmt:=top 47
abbrev d9z:Stmt:=top 48
abbrev oO:Stmt:=top 49
abbrev qX:Stmt:=top 50
abbrev rW:Stmt:=top 51
abbrev d5z:Stmt:=top 52
abbrev xK:Stmt:=top 53
abbrev bAz:Stmt:=top 54
abbrev a9z:Stmt:=top 55
abbrev d7z:Stmt:=top 56
abbrev d6z:Stmt:=top 57
abbrev bCz:Stmt:=top 58
abbrev d8z:Stmt:=top 59
abbrev xL:Stmt:=top 60
abbrev xM:Stmt:=top 61
abbrev rRz:Stmt:=top 70
abbrev AHz:Stmt:=top 71
abbrev rC:Stmt:=top 72
abbrev lJ:Stmt:=top 73
abbrev rQz:Stmt:=top 74
abbrev uO:Stmt:=top 75
abbrev xX:Stmt:=inClass (top 80) 0
abbrev eKz:Stmt:=inClass (top 80) 1
abbrev eJz:Stmt:=inClass (top 81) 0
abbrev xU:Stmt:=inClass (top 82) 0
abbrev eHz:Stmt:=inClass (top 83) 0
abbrev hSz:Stmt:=top 84
abbrev rB:Stmt:=top 85
abbrev oP:Stmt:=top 86
abbrev uN:Stmt:=top 87
abbrev rA:Stmt:=top 88
abbrev hUz:Stmt:=top 89
abbrev qZ:Stmt:=top 90
abbrev hVz:Stmt:=top 92
abbrev rD:Stmt:=top 93
abbrev eEz:Stmt:=top 94
abbrev eBz:Stmt:=top 95
abbrev s_cut:Stmt:=top 96
abbrev hWz:Stmt:=top 97
abbrev eDz:Stmt:=top 98
abbrev mS:Stmt:=top 99
abbrev mIz:Stmt:=top 100
abbrev hYz:Stmt:=inClass (top 105) 0
abbrev xW:Stmt:=inClass (top 106) 0
abbrev oQ:Stmt:=inClass (top 106) 1
abbrev oR:Stmt:=inClass (top 106) 2
abbrev xV:Stmt:=inClass (top 106) 3
abbrev kH:Stmt:=inClass (top 106) 4
abbrev uT:Stmt:=inClass (top 106) 5
abbrev fW:Stmt:=inClass (top 106) 6
abbrev sB:Stmt:=inClass (top 106) 7
abbrev fP:Stmt:=inClass (top 106) 8
abbrev xO:Stmt:=top 107
abbrev eLz:Stmt:=inClass (top 118) 0
abbrev eFz:Stmt:=top 119
abbrev eAz:Stmt:=top 120
abbrev lK:Stmt:=top 121
abbrev eGz:Stmt:=top 122
abbrev rE:Stmt:=top 123
abbrev mJz:Stmt:=top 124
set_option genInjectivity false in
set_option genSizeOf false in
structure Adr where
 kJz:Addr
 nX:Addr
 qM:Addr
 aGz:Addr
 p9z:Addr
 aKz:Addr
 wP:Addr
 lY:Addr
 nV:Addr
 jS:Addr
 lX:Addr
 wH:Addr
 qK:Addr
 sY:Addr
 wM:Addr
 iQ:Addr
 jR:Addr
 lW:Addr
 wI:Addr
 qH:Addr
 sX:Addr
 sW:Addr
 wK:Addr
 wJ:Addr
 sZ:Addr
 wL:Addr
 qI:Addr
 qJ:Addr
 kKz:Addr
 xWz:Addr
 jW:Addr
 gJ:Addr
 kIz:Addr
 nU:Addr
 aFz:Addr
 jV:Addr
 iR:Addr
 nS:Addr
 jU:Addr
 aHz:Addr
 jT:Addr
 aIz:Addr
 jX:Addr
 wR:Addr
 wO:Addr
 CRz:Addr
 aJz:Addr
 wQ:Addr
 iE:Addr
 fTz:Addr
 qL:Addr
 jH:Addr
 wN:Addr
 gK:Addr
 wS:Addr
 jY:Addr
 fUz:Addr
 iI:Addr
 iS:Addr
 cJ:Addr
 cM:Addr
 eD:Addr
 dB:Addr
 mC:Addr
 bP:Addr
 bG:Addr
 aG:Addr
 jA:Addr
 vE:Addr
 eW:Addr
 nH:Addr
 dJ:Addr
 bJ:Addr
 kK:Addr
 vX:Addr
 sJ:Addr
 jO:Addr
 lS:Addr
 nQ:Addr
 iY:Addr
 pW:Addr
 eA:Addr
 bM:Addr
 aW:Addr
 cH:Addr
 bL:Addr
 aQ:Addr
 cU:Addr
 pZ:Addr
 gH:Addr
 vY:Addr
 pX:Addr
 vW:Addr
 zW:Addr
 pY:Addr
 eB:Addr
 cA:Addr
 cW:Addr
 dD:Addr
 fY:Addr
 bY:Addr
 fB:Addr
 bS:Addr
 vZ:Addr
 f3z:Addr
structure Txt (K:W.Frag) (mg:Str→Option Value) (a:Adr):Prop where
 CMz:mg "judge" = some (.ref a.kJz)
 BAz:∃fd,Fun K "judge" "judge" o8z a.kJz fd
 hBz:mg "is_too_large" = some (.ref a.nX)
 gEz:∃fd,Fun K "is_too_large" "is_too_large" uQ a.nX fd
 kEz:mg "judge_terms" = some (.ref a.qM)
 i2z:∃fd,Fun K "judge_terms" "judge_terms" xP a.qM fd
 uNz:mg "terms_of" = some (.ref a.aGz)
 tFz:∃fd,Fun K "terms_of" "terms_of" hTz a.aGz fd
 qE:mg "codes" = some (.ref a.p9z)
 BBz:∃fd,Fun K "codes" "codes" v2z a.p9z fd
 aCz:mg "is_digit" = some (.ref a.aKz)
 tJz:∃fd,Fun K "is_digit" "is_digit" hXz a.aKz fd
 wE:mg "is_letter" = some (.ref a.wP)
 oQz:∃fd,Fun K "is_letter" "is_letter" eCz a.wP fd
 fKz:mg "printed_lines" = some (.ref a.lY)
 dGz:∃fd,Fun K "printed_lines" "printed_lines" rY a.lY fd
 hAz:mg "printed_rest" = some (.ref a.nV)
 gDz:∃fd,Fun K "printed_rest" "printed_rest" uP a.nV fd
 rK:mg "printed_swings" = some (.ref a.jS)
 bYz:∃fd,Fun K "printed_swings" "printed_swings" qY a.jS fd
 sO:mg "printed_terms" = some (.ref a.lX)
 dFz:∃fd,Fun K "printed_terms" "printed_terms" rX a.lX fd
 p0z:mg "sign_text" = some (.ref a.wH)
 oIz:∃fd,Fun K "sign_text" "sign_text" d4z a.wH fd
 qD:mg "number_text" = some (.ref a.qK)
 i0z:∃fd,Fun K "number_text" "number_text" xN a.qK fd
 nPz:mg "read_lines" = some (.ref a.sY)
 lDz:∃fd,Fun K "read_lines" "read_lines" bBz a.sY fd
 p2z:mg "read_line" = some (.ref a.wM)
 oNz:∃fd,Fun K "read_line" "read_line" d9z a.wM fd
 aBz:mg "read_angle_line" = some (.ref a.iQ)
 zA:∃fd,Fun K "read_angle_line" "read_angle_line" oO a.iQ fd
 cBz:mg "read_wave_line" = some (.ref a.jR)
 bXz:∃fd,Fun K "read_wave_line" "read_wave_line" qX a.jR fd
 fIz:mg "read_sum_line" = some (.ref a.lW)
 dEz:∃fd,Fun K "read_sum_line" "read_sum_line" rW a.lW fd
 p1z:mg "read_turn" = some (.ref a.wI)
 oJz:∃fd,Fun K "read_turn" "read_turn" d5z a.wI fd
 yL:mg "read_swings" = some (.ref a.qH)
 iXz:∃fd,Fun K "read_swings" "read_swings" xK a.qH fd
 sN:mg "read_terms" = some (.ref a.sX)
 lCz:∃fd,Fun K "read_terms" "read_terms" bAz a.sX fd
 sM:mg "take_joint" = some (.ref a.sW)
 lBz:∃fd,Fun K "take_joint" "take_joint" a9z a.sW fd
 fJz:mg "read_sign" = some (.ref a.wK)
 oLz:∃fd,Fun K "read_sign" "read_sign" d7z a.wK fd
 fHz:mg "read_term" = some (.ref a.wJ)
 oKz:∃fd,Fun K "read_term" "read_term" d6z a.wJ fd
 nQz:mg "read_count" = some (.ref a.sZ)
 lEz:∃fd,Fun K "read_count" "read_count" bCz a.sZ fd
 qC:mg "read_name" = some (.ref a.wL)
 oMz:∃fd,Fun K "read_name" "read_name" d8z a.wL fd
 qB:mg "read_number" = some (.ref a.qI)
 iYz:∃fd,Fun K "read_number" "read_number" xL a.qI fd
 yM:mg "read_digits" = some (.ref a.qJ)
 iZz:∃fd,Fun K "read_digits" "read_digits" xM a.qJ fd
 sPz:mg "cosine" = some (.ref a.kKz)
 y2z:∃fd,Fun K "cosine" "cosine" rRz a.kKz fd
 g_sine:mg "sine" = some (.ref a.xWz)
 u_sine:∃fd,Fun K "sine" "sine" AHz a.xWz fd
 cFz:mg "cosine_of_turn" = some (.ref a.jW)
 b2z:∃fd,Fun K "cosine_of_turn" "cosine_of_turn" rC a.jW fd
 eK:mg "cosine_of_quarter" = some (.ref a.gJ)
 vJ:∃fd,Fun K "cosine_of_quarter" "cosine_of_quarter" lJ a.gJ fd
 sOz:mg "series" = some (.ref a.kIz)
 y1z:∃fd,Fun K "series" "series" rQz a.kIz fd
 gZz:mg "series_terms" = some (.ref a.nU)
 gCz:∃fd,Fun K "series_terms" "series_terms" uO a.nU fd
 uMz:mg "waves_of" = some (.ref a.aFz)
 tEz:∃fd,Fun K "waves_of" "waves_of" hSz a.aFz fd
 cEz:mg "course_of_line" = some (.ref a.jV)
 b1z:∃fd,Fun K "course_of_line" "course_of_line" rB a.jV fd
 oX:mg "course_of_terms" = some (.ref a.iR)
 zB:∃fd,Fun K "course_of_terms" "course_of_terms" oP a.iR fd
 nR:mg "signed_count" = some (.ref a.nS)
 gBz:∃fd,Fun K "signed_count" "signed_count" uN a.nS fd
 cDz:mg "member_of_wave" = some (.ref a.jU)
 b0z:∃fd,Fun K "member_of_wave" "member_of_wave" rA a.jU fd
 iLz:mg "sways_of" = some (.ref a.aHz)
 tGz:∃fd,Fun K "sways_of" "sways_of" hUz a.aHz fd
 cCz:mg "members_of_sum" = some (.ref a.jT)
 bZz:∃fd,Fun K "members_of_sum" "members_of_sum" qZ a.jT fd
 uOz:mg "speed_of" = some (.ref a.aIz)
 tHz:∃fd,Fun K "speed_of" "speed_of" hVz a.aIz fd
 cGz:mg "common_divisor" = some (.ref a.jX)
 b3z:∃fd,Fun K "common_divisor" "common_divisor" rD a.jX fd
 p5z:mg "are_apart" = some (.ref a.wR)
 oSz:∃fd,Fun K "are_apart" "are_apart" eEz a.wR fd
 fLz:mg "places_of" = some (.ref a.wO)
 oPz:∃fd,Fun K "places_of" "places_of" eBz a.wO fd
 CNz:mg "cut" = some (.ref a.CRz)
 u_cut:∃fd,Fun K "cut" "cut" s_cut a.CRz fd
 uPz:mg "shift_of" = some (.ref a.aJz)
 tIz:∃fd,Fun K "shift_of" "shift_of" hWz a.aJz fd
 p4z:mg "factor_of" = some (.ref a.wQ)
 oRz:∃fd,Fun K "factor_of" "factor_of" eDz a.wQ fd
 yN:mg "factor_of_member" = some (.ref a.iE)
 xC:∃fd,Fun K "factor_of_member" "factor_of_member" mS a.iE fd
 nRz:mg "nearest" = some (.ref a.fTz)
 vFz:∃fd,Fun K "nearest" "nearest" mIz a.fTz fd
 hZ:mg "need_minute" = some (.ref a.qL)
 i1z:∃fd,Fun K "need_minute" "need_minute" xO a.qL fd
 xQz:mg "answers" = some (.ref a.jH)
 vHz:∃fd,Fun K "answers" "answers" eFz a.jH fd
 p3z:mg "read_call" = some (.ref a.wN)
 oOz:∃fd,Fun K "read_call" "read_call" eAz a.wN fd
 wF:mg "answer_or_refusal" = some (.ref a.gK)
 vK:∃fd,Fun K "answer_or_refusal" "answer_or_refusal" lK a.gK fd
 p6z:mg "answer_to" = some (.ref a.wS)
 oTz:∃fd,Fun K "answer_to" "answer_to" eGz a.wS fd
 cHz:mg "answer_of_time" = some (.ref a.jY)
 b4z:∃fd,Fun K "answer_of_time" "answer_of_time" rE a.jY fd
 fMz:mg "counted" = some (.ref a.fUz)
 vGz:∃fd,Fun K "counted" "counted" mJz a.fUz fd
 g_Term:mg "Term" = some (.ref a.iI)
 fQ:Cls K a.iI
 B6z:Mk K a.iI a.vX
 vV:bF K a.iI "sign"
 jF:bF K a.iI "count"
 iN:bF K a.iI "name"
 bMz:bF K a.iI "place"
 COz:mg "Swing" = some (.ref a.iS)
 nF:Cls K a.iS
 zIz:Mk K a.iS a.sJ
 iX:bF K a.iS "number"
 kR:bF K a.iS "terms"
 p7z:mg "AngleLine" = some (.ref a.cJ)
 bI:Cls K a.cJ
 nDz:Mk K a.cJ a.jO
 cO:bF K a.cJ "word"
 rJ:bF K a.cJ "name"
 oW:bF K a.cJ "place"
 iO:bF K a.cJ "phase"
 jN:bF K a.cJ "rate"
 uQz:mg "WaveLine" = some (.ref a.cM)
 aV:Cls K a.cM
 pPz:Mk K a.cM a.lS
 bW:bF K a.cM "word"
 sG:bF K a.cM "name"
 rH:bF K a.cM "place"
 gD:bF K a.cM "terms"
 gY:bF K a.cM "turn"
 dR:bF K a.cM "factors"
 fM:bF K a.cM "shifts"
 xRz:mg "SumLine" = some (.ref a.eD)
 bO:Cls K a.eD
 uCz:Mk K a.eD a.nQ
 bX:bF K a.eD "word"
 uY:bF K a.eD "name"
 sI:bF K a.eD "place"
 dY:bF K a.eD "terms"
 sP:mg "OutOfRange" = some (.ref a.dB)
 mK:exIn K a.dB none ["__setattr__","__getattribute__","__getattr__"]=true
 yJ:W.keepIn K (.ref a.dB)=true
 xSz:mg "NoSky" = some (.ref a.mC)
 oHz:exIn K a.mC none ["__setattr__","__getattribute__","__getattr__"]=true
 zNz:W.keepIn K (.ref a.mC)=true
 aDz:mg "NotThere" = some (.ref a.bP)
 tG:exIn K a.bP none ["__setattr__","__getattribute__","__getattr__"]=true
 fBz:W.keepIn K (.ref a.bP)=true
 nSz:mg "AtFault" = some (.ref a.bG)
 jC:exIn K a.bG (some (.ref a.iY)) ["__setattr__","__getattribute__","__getattr__","kind","place"]=true
 uGz:W.keepIn K (.ref a.bG)=true
 fOz:W.isFn K (.ref a.iY)=true
 zVz:mg "Reader" = some (.ref a.aG)
 aH:Cls K a.aG
 wRz:Mk K a.aG a.pW
 pV:bF K a.aG "text"
 cD:bF K a.aG "place"
 kFz:mg "Course" = some (.ref a.jA)
 dU:Cls K a.jA
 eYz:Mk K a.jA a.pZ
 gZ:bF K a.jA "origin"
 dH:bF K a.jA "growth"
 g_Sway:mg "Sway" = some (.ref a.vE)
 aLz:Cls K a.vE
 B7z:Mk K a.vE a.vY
 pS:bF K a.vE "number"
 pT:bF K a.vE "course"
 sQz:mg "Member" = some (.ref a.eW)
 iF:Cls K a.eW
 nCz:Mk K a.eW a.pX
 nP:bF K a.eW "count"
 jM:bF K a.eW "factors"
 lR:bF K a.eW "shifts"
 AWz:mg "Wave" = some (.ref a.nH)
 jZ:Cls K a.nH
 wQz:Mk K a.nH a.vW
 vU:bF K a.nH "name"
 fA:bF K a.nH "argument"
 iW:bF K a.nH "members"
 g_Sky:mg "Sky" = some (.ref a.dJ)
 vD:Cls K a.dJ
 mk_Sky:Mk K a.dJ a.zW
 bNz:bF K a.dJ "angles"
 pU:bF K a.dJ "waves"
 yG:bF K a.dJ "numbers"
 yF:bF K a.dJ "printed"
 zWz:mg "Holder" = some (.ref a.bJ)
 cB:Cls K a.bJ
 wSz:Mk K a.bJ a.pY
 mZ:bF K a.bJ "sky"
 g_Call:mg "Call" = some (.ref a.kK)
 bC:Cls K a.kK
 B8z:Mk K a.kK a.vZ
 aN:bF K a.kK "number"
 gO:bF K a.kK "given"
 zT:bF K a.kK "row"
 yH:bF K a.kK "behind"
 oVz:∃fd,Fun K "__init__" "Term.__init__" eIz a.vX fd
 lFz:∃fd,Fun K "__init__" "Swing.__init__" bDz a.sJ fd
 b5z:∃fd,Fun K "__init__" "AngleLine.__init__" rF a.jO fd
 dHz:∃fd,Fun K "__init__" "WaveLine.__init__" rZ a.lS fd
 gFz:∃fd,Fun K "__init__" "SumLine.__init__" uR a.nQ fd
 gIz:∃fd,Fun K "__init__" "AtFault.__init__" uU a.iY fd
 i6z:∃fd,Fun K "__init__" "Reader.__init__" xT a.pW fd
 dIz:∃fd,Fun K "at_end" "Reader.at_end" sA a.eA fd
 eA:Meth K a.aG "at_end" a.eA
 gGz:∃fd,Fun K "ahead" "Reader.ahead" uS a.bM fd
 bM:Meth K a.aG "ahead" a.bM
 i4z:∃fd,Fun K "sees" "Reader.sees" xR a.aW fd
 aW:Meth K a.aG "sees" a.aW
 i3z:∃fd,Fun K "take" "Reader.take" xQ a.cH fd
 cH:Meth K a.aG "take" a.cH
 vL:∃fd,Fun K "take_digit" "Reader.take_digit" lM a.bL fd
 bL:Meth K a.aG "take_digit" a.bL
 xD:∃fd,Fun K "take_word" "Reader.take_word" mT a.aQ fd
 aQ:Meth K a.aG "take_word" a.aQ
 i5z:∃fd,Fun K "need" "Reader.need" xS a.cU fd
 cU:Meth K a.aG "need" a.cU
 jAz:∃fd,Fun K "__init__" "Course.__init__" xX a.pZ fd
 oXz:∃fd,Fun K "at" "Course.at" eKz a.gH fd
 gH:Meth K a.jA "at" a.gH
 oWz:∃fd,Fun K "__init__" "Sway.__init__" eJz a.vY fd
 i7z:∃fd,Fun K "__init__" "Member.__init__" xU a.pX fd
 oUz:∃fd,Fun K "__init__" "Wave.__init__" eHz a.vW fd
 tKz:∃fd,Fun K "__init__" "Sky.__init__" hYz a.zW fd
 i9z:∃fd,Fun K "__init__" "Holder.__init__" xW a.pY fd
 zC:∃fd,Fun K "take_sky" "Holder.take_sky" oQ a.eB fd
 eB:Meth K a.bJ "take_sky" a.eB
 zD:∃fd,Fun K "held_sky" "Holder.held_sky" oR a.cA fd
 cA:Meth K a.bJ "held_sky" a.cA
 i8z:∃fd,Fun K "wave" "Holder.wave" xV a.cW fd
 cW:Meth K a.bJ "wave" a.cW
 tW:∃fd,Fun K "wave_number" "Holder.wave_number" kH a.dD fd
 dD:Meth K a.bJ "wave_number" a.dD
 gHz:∃fd,Fun K "speed" "Holder.speed" uT a.fY fd
 fY:Meth K a.bJ "speed" a.fY
 nN:∃fd,Fun K "place_and_factor" "Holder.place_and_factor" fW a.bY fd
 bY:Meth K a.bJ "place_and_factor" a.bY
 dJz:∃fd,Fun K "places" "Holder.places" sB a.fB fd
 fB:Meth K a.bJ "places" a.fB
 mI:∃fd,Fun K "can_be_told_apart" "Holder.can_be_told_apart" fP a.bS fd
 bS:Meth K a.bJ "can_be_told_apart" a.bS
 oYz:∃fd,Fun K "__init__" "Call.__init__" eLz a.vZ fd
 sL:∃t,mg "ANGLE" = some (.str "angle" t)
 bPz:∃t,mg "WAVE" = some (.str "wave" t)
 xFz:∃t,mg "SUM" = some (.str "sum" t)
 zY:∃t,mg "DECIMALS" = some (.int 12 t)
 xIz:∃t,mg "ONE" = some (.int 1000000000000 t)
 xKz:∃t,mg "GRAMMAR" = some (.int 1 t)
 nHz:∃t,mg "NAME_TAKEN" = some (.int 2 t)
 gXz:∃t,mg "NAME_MISSING" = some (.int 3 t)
 uHz:∃t,mg "TOO_MANY" = some (.int 4 t)
 pWz:∃t,mg "TOO_LARGE" = some (.int 5 t)
 j9z:∃t,mg "MOST_ANGLES" = some (.int 16 t)
 nIz:∃t,mg "MOST_WAVES" = some (.int 128 t)
 j8z:∃t,mg "MOST_COUNTS" = some (.int 12 t)
 xJz:∃t,mg "NO_BYTE" = some (.int (-1) t)
 nKz:∃t,mg "MOST_SIGNS" = some (.int 7 t)
 j7z:∃t,mg "MOST_DIGITS" = some (.int 3 t)
 nJz:∃t,mg "MOST_TERMS" = some (.int 8 t)
 j5z:∃t,mg "MOST_SWINGS" = some (.int 8 t)
 hX:∃t,mg "CIRCLE" = some (.int 4294967296 t)
 xHz:∃t,mg "QUARTER" = some (.int 1073741824 t)
 xGz:∃t,mg "RAY" = some (.int 1073741824 t)
 sKz:∃t,mg "BITS" = some (.int 192 t)
 iKz:∃t,mg "RAY_BITS" = some (.int 30 t)
 nLz:∃t,mg "HALF_PI" = some (.int 9860048348863269281198066682114134445731725432595044866280 t)
 pXz:∃t,mg "LAST_TERM" = some (.int 63 t)
 iJz:∃t,mg "TURN" = some (.int 21600000000000000 t)
 zOz:∃t,mg "DEGREE" = some (.int 60000000000000 t)
 AUz:∃t,mg "UNIT" = some (.int 60 t)
 gYz:∃t,mg "FIRST_MINUTE" = some (.int (-2147483648) t)
 kAz:∃t,mg "LAST_MINUTE" = some (.int 2147483647 t)
 j6z:∃t,mg "MOST_PLACES" = some (.int 256 t)
 k_SKY:∃t,mg "SKY" = some (.int 0 t)
 CEz:∃t,mg "PRINT" = some (.int 1 t)
 k_SIZE:∃t,mg "SIZE" = some (.int 2 t)
 k_NAME:∃t,mg "NAME" = some (.int 3 t)
 AVz:∃t,mg "FIND" = some (.int 4 t)
 CDz:∃t,mg "SPEED" = some (.int 5 t)
 CFz:∃t,mg "PLACE" = some (.int 6 t)
 k_ROW:∃t,mg "ROW" = some (.int 7 t)
 fDz:mg "WHOLE_NUMBERS" = some (.ref a.f3z)
 dDz:∃o its,K.lookup a.f3z=some o∧o.cls = .type "tuple"∧(∃n,o.data = .seq its n)∧Vals [.int 0,.int 0,.int 0,.int 1,.int 0,.int 1,.int 3,.int 4,.int 3] its.toList
 mX:mg "len" = none
 bKz:mg "ord" = none
 eXz:mg "abs" = none
 eWz:mg "sum" = none
 sFz:mg "str" = none
 pLz:mg "list" = none
 j1z:mg "tuple" = none
 B5z:mg "dict" = none
 bLz:mg "enumerate" = none
 sGz:mg "range" = none
end Td


namespace L2
open PySem PySem.Spec PyProof.Rows
theorem nI:bootBuiltins "len" = some (.builtin "len"):=by decide +kernel
theorem A1z:bootBuiltins "ord" = some (.builtin "ord"):=by decide +kernel
theorem f0z:bootBuiltins "abs" = some (.builtin "abs"):=by decide +kernel
theorem fZz:bootBuiltins "sum" = some (.builtin "sum"):=by decide +kernel
theorem sZz:bootBuiltins "str" = some (.type "str"):=by decide +kernel
theorem yMz:bootBuiltins "list" = some (.type "list"):=by decide +kernel
theorem kMz:bootBuiltins "tuple" = some (.type "tuple"):=by decide +kernel
theorem CYz:bootBuiltins "dict" = some (.type "dict"):=by decide +kernel
def Ok (P:Program) (w:World) (K:W.Frag) (mg:Str→Option Value) (base:Heap) (k:Nat) (f:Addr) (ps:List Str) (sp:Sp):Prop := ∃fd,FnOk P w K mg base (CXr P w) k f fd ps sp∧aOz K fd ps []∧W.keepIn K (.ref f)=true
abbrev EN:XK:=fun _ _ _=>False
theorem passN {X:Cx} {P:Program} {w:World}:mD (CXr P w) X EN:=fun _ _ _ _ _ _ _ h=>by obtain⟨_,_,_,_,_,_,z⟩:=h;exact z.elim
theorem z8z {o:Option (Option V)} {H:Hp} {Q:VK}:IVar o H Q↔∃v,o=some (some v)∧Q v H:=⟨fun ⟨v,e,q⟩=>⟨v,e,q⟩,fun ⟨v,e,q⟩=>⟨v,e,q⟩⟩
theorem rI_iff {C:Int→Int→Prop} {g:Int→Int→V} {x y:V} {H:Hp} {Q:VK}:rI C g x y H Q↔∃i j,x = .int i∧y = .int j∧C i j∧Q (g i j) H:=⟨fun ⟨i,j,a,b,c,q⟩=>⟨i,j,a,b,c,q⟩,fun ⟨i,j,a,b,c,q⟩=>⟨i,j,a,b,c,q⟩⟩
theorem BLz {g:Int→Int→V} {x y:V} {H:Hp} {Q:VK}:rI0 g x y H Q↔∃i j,x = .int i∧y = .int j∧Q (g i j) H:=⟨fun ⟨i,j,a,b,q⟩=>⟨i,j,a,b,q⟩,fun ⟨i,j,a,b,q⟩=>⟨i,j,a,b,q⟩⟩
theorem IB_iff {Q:Bool→Hp→Prop} {x:V} {H:Hp}:IB Q x H↔∃c,x = .bl c∧Q c H:=⟨fun ⟨c,e,q⟩=>⟨c,e,q⟩,fun ⟨c,e,q⟩=>⟨c,e,q⟩⟩
def tC1 (sp:Sp) (E:XK) (t:TA):TE:=fun σ H Q=>t σ H fun vs H1=>sp vs H1 Q E
def tM (C:Addr) (m:Str) (sp:Sp) (E:XK) (ta:TE) (t:TA):TE:=fun σ H Q=>ta σ H fun x H1=>DDz C m (fun H1=>t σ H1 fun vs H2=>sp (x::vs) H2 Q E) x H1
def tMk (C:Addr) (sp:Sp) (E:XK) (t:TA):TE:=fun σ H Q=>t σ H fun vs H1=>∀x dx,H1 x=none→H1 dx=none→dx≠x→sp (.ref x::vs) (upd (upd H1 dx (.own x)) x (.ins C dx [])) (fun v H2=>v = .non∧Q (.ref x) H2) E
section
variable {X:Cx} {k:Nat} {f C:Addr} {ps:List Str} {sp:Sp} {E:XK} {x m:Str} {p pos apos:Pos} {e o:Expr} {es:List Expr} {ta:TE} {t:TA}
theorem pc (F:Ok X.prog X.w X.K X.mg X.base k f ps sp) (hr:Room k X.A) (hg:Gl X x) (hm:X.mg x=some (.ref f)) (hx:mD (CXr X.prog X.w) X E) (ha:PA X (e::es) t)
  (hdb:(x == ("__debug__" : Str))=false:=by decide) (he:starEach (e::es) X.env=(false,eval e X.env)::starEach es X.env:=by rfl) (hpl:(backTo pos (starEach es X.env)).any (·.1)=false:=by rfl) :
  PE X (.Call (.Name x p) (e::es) [] pos) (tC1 sp E t):=by
 obtain⟨fd,F1,hb,hk⟩:=F;intro pins s σ H Q I h;refine BVz F1 hr hg hm hk hb .nil hx ha hdb he hpl pins s σ H Q I ?_
 simpa only [tCall,tC1,List.append_nil] using h
theorem pm {pl:Sem Bool} (he:PE X o ta) (c:Cls X.K C) (hm:Meth X.K C m f) (F:Ok X.prog X.w X.K X.mg X.base k f ps sp) (hr:Room k X.A) (hx:mD (CXr X.prog X.w) X E) (ha:PA X (e::es) t)
  (hst:starEach (e::es) X.env=(false,eval e X.env)::starEach es X.env:=by rfl) (hpl:(backTo pos (starEach es X.env)).any (·.1)=false:=by rfl)
  (ht:eval (.Call (.Attribute o m apos) (e::es) [] pos) X.env=(do
   let ov ← eval o X.env
   standAt apos.atName
   let (f,first) ← holding [ov] (getMethod ov m pl)
   callWith pos f first (backTo pos (starEach (e::es) X.env)) (backToKw pos (keywordEach [] X.env))):=by rfl) :
  PE X (.Call (.Attribute o m apos) (e::es) [] pos) (tM C m sp E ta t):=by
 obtain⟨fd,F1,hb,hk⟩:=F;intro pins s σ H Q I h;refine BQz he c hm F1 hr hb .nil hx ha hst hpl ht pins s σ H Q I ?_
 simpa only [tMeth,tM,List.append_nil] using h
theorem pm0 {pl:Sem Bool} (he:PE X o ta) (c:Cls X.K C) (hm:Meth X.K C m f) (F:Ok X.prog X.w X.K X.mg X.base k f ps sp) (hr:Room k X.A) (hx:mD (CXr X.prog X.w) X E)
  (ht:eval (.Call (.Attribute o m apos) [] [] pos) X.env=(do
   let ov ← eval o X.env
   standAt apos.atName
   let (f,first) ← holding [ov] (getMethod ov m pl)
   callWith pos f first (backTo pos (starEach [] X.env)) (backToKw pos (keywordEach [] X.env))):=by rfl) :
  PE X (.Call (.Attribute o m apos) [] [] pos) (tM C m sp E ta tNil):=by
 obtain⟨fd,F1,hb,hk⟩:=F;intro pins s σ H Q I h;refine y9z he c hm F1 hr hb .nil hx ht pins s σ H Q I ?_
 simpa only [tMeth,tM,List.append_nil] using h
theorem pn (M:Mk X.K C f) (F:Ok X.prog X.w X.K X.mg X.base k f ps sp) (hr:Room (k+1) X.A) (hg:Gl X x) (hm:X.mg x=some (.ref C)) (hx:mD (CXr X.prog X.w) X E) (ha:PA X (e::es) t)
  (hdb:(x == ("__debug__" : Str))=false:=by decide) (he:starEach (e::es) X.env=(false,eval e X.env)::starEach es X.env:=by rfl) (hpl:(backTo pos (starEach es X.env)).any (·.1)=false:=by rfl) :
  PE X (.Call (.Name x p) (e::es) [] pos) (tMk C sp E t):=by
 obtain⟨fd,F1,hb,hk⟩:=F;intro pins s σ H Q I h;refine BRz M F1 hr hg hm hb .nil hx ha hdb he hpl pins s σ H Q I ?_
 simpa only [tMake,tMk,List.append_nil] using h
theorem pn0 (M:Mk X.K C f) (F:Ok X.prog X.w X.K X.mg X.base k f ps sp) (hr:Room (k+1) X.A) (hg:Gl X x) (hm:X.mg x=some (.ref C)) (hx:mD (CXr X.prog X.w) X E)
  (hdb:(x == ("__debug__" : Str))=false:=by decide):PE X (.Call (.Name x p) [] [] pos) (tMk C sp E tNil):=by
 obtain⟨fd,F1,hb,hk⟩:=F;intro pins s σ H Q I h;refine zAz M F1 hr hg hm hb .nil hx hdb pins s σ H Q I ?_
 simpa only [tMake,tMk,List.append_nil] using h
theorem vP {q:Str} {j:Nat} {p2:Pos} (n:Int) (hm:X.mg "ord" = none) (h1:q.length=1:=by decide +kernel) (h2:((q.cps.getD 0 0:Nat):Int)=n:=by decide +kernel) (hg:Gl X "ord" := by rfl) :
  PE X (.Call (.Name "ord" p) [.Constant (.str q) j p2] [] pos) (tC (.int n)):=by
 intro pins s σ H Q I h;refine bH sYz hg hm A1z (aA bB aD) (by decide) (by decide) rfl rfl pins s σ H Q I ?_;exact⟨q,rfl,h1,by rw [h2];exact h⟩
theorem gI {i:Int} (h:∃t,X.mg x=some (.int i t)) (hg:Gl X x:=by rfl) (hd:(x == ("__debug__" : Str))=false:=by decide):PE X (.Name x pos) (tC (.int i)):=let ⟨t,e⟩:=h;pBz hg e ⟨t,rfl⟩ hd
theorem gS {i:Str} (h:∃t,X.mg x=some (.str i t)) (hg:Gl X x:=by rfl) (hd:(x == ("__debug__" : Str))=false:=by decide):PE X (.Name x pos) (tC (.str i)):=let ⟨t,e⟩:=h;pBz hg e ⟨t,rfl⟩ hd
end
section
variable {P:Program} {w:World} {K:W.Frag} {mg:Str→Option Value} {base:Heap}
theorem u1 {α : Type _} {f g:List Value→α} (h:∀a,f [a]=g [a]) (us:List Value) (hl:us.length=1):f us=g us:=match us,hl with | [a],_=>h a
theorem u2 {α : Type _} {f g:List Value→α} (h:∀a b,f [a,b]=g [a,b]) (us:List Value) (hl:us.length=2):f us=g us:=match us,hl with | [a,b],_=>h a b
theorem u3 {α : Type _} {f g:List Value→α} (h:∀a b c,f [a,b,c]=g [a,b,c]) (us:List Value) (hl:us.length=3):f us=g us:=match us,hl with | [a,b,c],_=>h a b c
theorem u4 {α : Type _} {f g:List Value→α} (h:∀a b c d,f [a,b,c,d]=g [a,b,c,d]) (us:List Value) (hl:us.length=4):f us=g us:=match us,hl with | [a,b,c,d],_=>h a b c d
theorem u5 {α : Type _} {f g:List Value→α} (h:∀a b c d e,f [a,b,c,d,e]=g [a,b,c,d,e]) (us:List Value) (hl:us.length=5):f us=g us:=match us,hl with | [a,b,c,d,e],_=>h a b c d e
theorem u7 {α : Type _} {f g:List Value→α} (h:∀a b c d e i j,f [a,b,c,d,e,i,j]=g [a,b,c,d,e,i,j]) (us:List Value) (hl:us.length=7):f us=g us:=match us,hl with | [a,b,c,d,e,i,j],_=>h a b c d e i j
theorem bD {x qual:Str} {st:Stmt} {f:Addr} {N ps:List Str} {k:Nat} {sp:Sp} (F:∃fd,Fun K x qual st f fd) (S:aI N ps (defScope st))
  (hb:∀(kV doc pm:Value) (an:Option Addr) (cdv ct:Value) (us:List Value),us.length=ps.length→bindArgs (W.fnOf x qual (defArgs st) (defBody st) (defScope st) .none kV doc pm an cdv ct) ⟨us,[]⟩=pure (ps.zip us))
  (len:∀vs H Q E,sp vs H Q E→vs.length=ps.length)
  (hbody:∀(cdv:Value) (A:Around) (outer:List Env) (s:Shared) (H:Hp) (vs:List V) (Q:VK) (E:XK),Room k (A.deeper (envOfC qual (defScope st) s.heap.objs.size f cdv))→sp vs H Q E→
   ∃t,PSs (cxOf (CXr P w) P w K mg base N qual (defScope st) f cdv A outer s H E) (defBody st) t∧t {nx:=fun _ H'=>Q .non H',rt:=Q} (start N vs) H):Ok P w K mg base (k+1) f ps sp:=by
 obtain⟨fd,F⟩:=F;have hbd:=F.binds hb;obtain⟨oc,od,kV,doc,pm,an,cdv,ct,osl,rfl,lk,hcd⟩:=F.ex;exact⟨_,fn_of lk hcd S len fun A outer s H vs Q E hr hsp=>hbody cdv A outer s H vs Q E hr hsp,hbd,F.kp⟩
end
end L2


namespace Td
open PySem PySem.Spec PyProof.Rows L2
section
variable {P:Program} {w:World} {K:W.Frag} {mg:Str→Option Value} {base:Heap} {a:Adr}
set_option hygiene false in
local macro_rules | `(tactic| walk_at "s") => `(tactic| exact⟨rfl,rfl,rfl,by decide +kernel,rfl,by decide +kernel,by decide +kernel⟩)
set_option hygiene false in
local macro_rules | `(tactic| walk_at "b") => `(tactic| first | (exact fun _ _ _ _ _ _=>u1 fun _=>rfl) | (exact fun _ _ _ _ _ _=>u2 fun _ _=>rfl) | (exact fun _ _ _ _ _ _=>u3 fun _ _ _=>rfl) | (exact fun _ _ _ _ _ _=>u4 fun _ _ _ _=>rfl) | (exact fun _ _ _ _ _ _=>u5 fun _ _ _ _ _=>rfl) | (exact fun _ _ _ _ _ _=>u6 fun _ _ _ _ _ _=>rfl) | (exact fun _ _ _ _ _ _=>u7 fun _ _ _ _ _ _ _=>rfl) | (exact fun _ _ _ _ _ _=>u8 fun _ _ _ _ _ _ _ _=>rfl) | (exact fun _ _ _ _ _ _=>u9 fun _ _ _ _ _ _ _ _ _=>rfl))
set_option hygiene false in
local macro_rules | `(tactic| walk_at "o") => `(tactic| ((case b=>walk_at "b");(case' h=>intro cdv A outer s H vs Q E hr h);(case' l=>intro vs H Q E h)))
local macro_rules | `(tactic| walk_at "rd") => `(tactic| simp only [tRet,tRetN,tSeq,tNext,tDrop,tIfS,tAsg,gName,tC,tVar,tCB,tCons,tNil,tOp,tUn,rI_iff,BLz,z8z,IB_iff,tChain,tTest,tB,tNot,tAnd,tOr,tAndV,tOrV,tNotV,tIf,tC1,tM,tMk,tLst,tTup,L2.start,rEq,rNe,tFld,sFld,
 List.map_cons,List.map_nil,List.length_cons,List.length_nil,List.replicate_zero,List.replicate_succ,List.cons_append,List.nil_append,List.append_nil,Nat.zero_add,Nat.reduceAdd,Nat.reduceSub,List.getElem?_cons_zero,List.getElem?_cons_succ,List.set_cons_zero,List.set_cons_succ,
 exists_eq_left,exists_eq_left',exists_eq_right,exists_eq_right',exists_and_left,exists_and_right,true_and,and_true,V.int.injEq,V.str.injEq,V.bl.injEq,V.ref.injEq,List.cons.injEq,Option.some.injEq,HO.ins.injEq,decide_eq_true_eq,Bool.not_eq_true',decide_eq_false_iff_not,Bool.false_eq_true,if_true,if_false,ne_eq,not_false_eq_true,and_self,exists_const])
theorem o7z:aI ["byte"] ["byte"] (defScope hXz):=by walk_at "s"
def isDg (b:Int):Bool:=decide (48≤b)&&decide (b≤57)
inductive dUz (vs:List V) (H:Hp) (Q:VK) (_E:XK):Prop
 | mk (b:Int) (_:vs=[.int b]) (_:Q (.bl (isDg b)) H):dUz vs H Q _E
theorem eVz (T:Txt K mg a):Ok P w K mg base 1 a.aKz ["byte"] dUz:=by
 refine bD T.tJz o7z ?b ?l ?h;walk_at "o"
 ·obtain⟨b,rfl,_⟩:=h;rfl
 ·obtain⟨b,rfl,k⟩:=h
  refine⟨_,(aE (aR (jYz mTz mTz (vP 48 T.bKz) (pv 0) (vP 57 T.bKz)))),?_⟩
  walk_at "rd"
  unfold isDg at k;split <;> rename_i h1
  ·rw [decide_eq_true h1,Bool.true_and] at k;exact k
  ·rw [decide_eq_false h1,Bool.false_and] at k;exact k
theorem mBz:aI ["byte"] ["byte"] (defScope eCz):=by walk_at "s"
def isLt (b:Int):Bool:=(decide (65≤b)&&decide (b≤90))||(decide (97≤b)&&decide (b≤122))
inductive aZz (vs:List V) (H:Hp) (Q:VK) (_E:XK):Prop
 | mk (b:Int) (_:vs=[.int b]) (_:Q (.bl (isLt b)) H):aZz vs H Q _E
theorem bJz (T:Txt K mg a):Ok P w K mg base 1 a.wP ["byte"] aZz:=by
 refine bD T.oQz mBz ?b ?l ?h;walk_at "o"
 ·obtain⟨b,rfl,_⟩:=h;rfl
 ·obtain⟨b,rfl,k⟩:=h
  refine⟨_,(aE (aR (pe_or (jYz mTz mTz (vP 65 T.bKz) (pv 0) (vP 90 T.bKz)) (pe_one (jYz mTz mTz (vP 97 T.bKz) (pv 0) (vP 122 T.bKz)))))),?_⟩
  walk_at "rd"
  unfold isLt at k
  by_cases h1:65≤b
  ·rw [if_pos h1]
   rw [decide_eq_true h1,Bool.true_and] at k
   by_cases h2:b≤90
   ·rw [if_pos h2]
    rw [decide_eq_true h2,Bool.true_or] at k;exact k
   ·rw [if_neg h2]
    rw [decide_eq_false h2,Bool.false_or] at k
    by_cases h3:97≤b
    ·rw [if_pos h3]
     rw [decide_eq_true h3,Bool.true_and] at k;exact k
    ·rw [if_neg h3]
     rw [decide_eq_false h3,Bool.false_and] at k;exact k
  ·rw [if_neg h1]
   rw [decide_eq_false h1,Bool.false_and,Bool.false_or] at k
   by_cases h3:97≤b
   ·rw [if_pos h3]
    rw [decide_eq_true h3,Bool.true_and] at k;exact k
   ·rw [if_neg h3]
    rw [decide_eq_false h3,Bool.false_and] at k;exact k
theorem dYz:aI ["term"] ["term"] (defScope uN):=by walk_at "s"
def wG (v0 v1 v2 v3:V):List (Str×V):=[("sign",v0),("count",v1),("name",v2),("place",v3)]
theorem bRz (v0 v1 v2 v3:V):(wG v0 v1 v2 v3).lookup ("sign" : Str)=some v0:=rfl
theorem kU (v0 v1 v2 v3:V):(wG v0 v1 v2 v3).lookup ("count" : Str)=some v1:=rfl
theorem jG (v0 v1 v2 v3:V):(wG v0 v1 v2 v3).lookup ("name" : Str)=some v2:=rfl
theorem kGz (v0 v1 v2 v3:V):(wG v0 v1 v2 v3).lookup ("place" : Str)=some v3:=rfl
inductive o3z (a:Adr) (vs:List V) (H:Hp) (Q:VK) (_E:XK):Prop
 | mk (x dx v0 v1 v2 v3) (_:vs=[.ref x,v0,v1,v2,v3]) (_:H x=some (.ins a.iI dx [])) (_:Q .non (upd H x (.ins a.iI dx (wG v0 v1 v2 v3)))):o3z a vs H Q _E
theorem mEz:aI ["self","sign","count","name","place"] ["self","sign","count","name","place"] (defScope eIz):=by walk_at "s"
theorem B0z (T:Txt K mg a):Ok P w K mg base 1 a.vX ["self","sign","count","name","place"] (o3z a):=by
 refine bD T.oVz mEz ?b ?l ?h;walk_at "o"
 ·obtain⟨x,dx,v0,v1,v2,v3,rfl,_⟩:=h;rfl
 ·obtain⟨x,dx,v0,v1,v2,v3,rfl,hx,k⟩:=h
  refine⟨_,(aB (bR (pv 0) (pv 1) rfl)
   (aB (bR (pv 0) (pv 2) rfl)
   (aB (bR (pv 0) (pv 3) rfl)
   (aE (bR (pv 0) (pv 4) rfl))))),?_⟩
  refine⟨_,rfl,_,rfl,x,_,dx,_,rfl,hx,T.fQ,T.vV,(by show 0<1000;decide),?_⟩;refine⟨_,rfl,_,rfl,x,_,dx,_,rfl,aC,T.fQ,T.jF,(by show 1<1000;decide),?_⟩;refine⟨_,rfl,_,rfl,x,_,dx,_,rfl,aC,T.fQ,T.iN,(by show 2<1000;decide),?_⟩;refine⟨_,rfl,_,rfl,x,_,dx,_,rfl,aC,T.fQ,T.bMz,(by show 3<1000;decide),?_⟩;dsimp only
  (try simp only [cE])
  exact k
def qG (v0 v1:V):List (Str×V):=[("number",v0),("terms",v1)]
theorem lU (v0 v1:V):(qG v0 v1).lookup ("number" : Str)=some v0:=rfl
theorem iZ (v0 v1:V):(qG v0 v1).lookup ("terms" : Str)=some v1:=rfl
inductive rPz (a:Adr) (vs:List V) (H:Hp) (Q:VK) (_E:XK):Prop
 | mk (x dx v0 v1) (_:vs=[.ref x,v0,v1]) (_:H x=some (.ins a.iS dx [])) (_:Q .non (upd H x (.ins a.iS dx (qG v0 v1)))):rPz a vs H Q _E
theorem jOz:aI ["self","number","terms"] ["self","number","terms"] (defScope bDz):=by walk_at "s"
theorem zFz (T:Txt K mg a):Ok P w K mg base 1 a.sJ ["self","number","terms"] (rPz a):=by
 refine bD T.lFz jOz ?b ?l ?h;walk_at "o"
 ·obtain⟨x,dx,v0,v1,rfl,_⟩:=h;rfl
 ·obtain⟨x,dx,v0,v1,rfl,hx,k⟩:=h
  refine⟨_,(aB (bR (pv 0) (pv 1) rfl)
   (aE (bR (pv 0) (pv 2) rfl))),?_⟩
  refine⟨_,rfl,_,rfl,x,_,dx,_,rfl,hx,T.nF,T.iX,(by show 0<1000;decide),?_⟩;refine⟨_,rfl,_,rfl,x,_,dx,_,rfl,aC,T.nF,T.kR,(by show 1<1000;decide),?_⟩;dsimp only
  (try simp only [cE])
  exact k
def gP (v0 v1 v2 v3:V):List (Str×V):=[("word",(.str "angle")),("name",v0),("place",v1),("phase",v2),("rate",v3)]
theorem dF (v0 v1 v2 v3:V):(gP v0 v1 v2 v3).lookup ("word" : Str)=some (.str "angle"):=rfl
theorem nD (v0 v1 v2 v3:V):(gP v0 v1 v2 v3).lookup ("phase" : Str)=some v2:=rfl
theorem pA (v0 v1 v2 v3:V):(gP v0 v1 v2 v3).lookup ("rate" : Str)=some v3:=rfl
inductive a4z (a:Adr) (vs:List V) (H:Hp) (Q:VK) (_E:XK):Prop
 | mk (x dx v0 v1 v2 v3) (_:vs=[.ref x,v0,v1,v2,v3]) (_:H x=some (.ins a.cJ dx [])) (_:Q .non (upd H x (.ins a.cJ dx (gP v0 v1 v2 v3)))):a4z a vs H Q _E
theorem zJ:aI ["self","name","place","phase","rate"] ["self","name","place","phase","rate"] (defScope rF):=by walk_at "s"
theorem m8z (T:Txt K mg a):Ok P w K mg base 1 a.jO ["self","name","place","phase","rate"] (a4z a):=by
 refine bD T.b5z zJ ?b ?l ?h;walk_at "o"
 ·obtain⟨x,dx,v0,v1,v2,v3,rfl,_⟩:=h;rfl
 ·obtain⟨x,dx,v0,v1,v2,v3,rfl,hx,k⟩:=h
  refine⟨_,(aB (bR (pv 0) (gS T.sL) rfl)
   (aB (bR (pv 0) (pv 1) rfl)
   (aB (bR (pv 0) (pv 2) rfl)
   (aB (bR (pv 0) (pv 3) rfl)
   (aE (bR (pv 0) (pv 4) rfl)))))),?_⟩
  refine⟨_,rfl,x,_,dx,_,rfl,hx,T.bI,T.cO,(by show 0<1000;decide),?_⟩;refine⟨_,rfl,_,rfl,x,_,dx,_,rfl,aC,T.bI,T.rJ,(by show 1<1000;decide),?_⟩;refine⟨_,rfl,_,rfl,x,_,dx,_,rfl,aC,T.bI,T.oW,(by show 2<1000;decide),?_⟩;refine⟨_,rfl,_,rfl,x,_,dx,_,rfl,aC,T.bI,T.iO,(by show 3<1000;decide),?_⟩;refine⟨_,rfl,_,rfl,x,_,dx,_,rfl,aC,T.bI,T.jN,(by show 4<1000;decide),?_⟩;dsimp only
  (try simp only [cE])
  exact k
def fD (v0 v1 v2 v3 v4 v5:V):List (Str×V):=[("word",(.str "wave")),("name",v0),("place",v1),("terms",v2),("turn",v3),("factors",v4),("shifts",v5)]
theorem cP (v0 v1 v2 v3 v4 v5:V):(fD v0 v1 v2 v3 v4 v5).lookup ("word" : Str)=some (.str "wave"):=rfl
theorem iP (v0 v1 v2 v3 v4 v5:V):(fD v0 v1 v2 v3 v4 v5).lookup ("terms" : Str)=some v2:=rfl
theorem jP (v0 v1 v2 v3 v4 v5:V):(fD v0 v1 v2 v3 v4 v5).lookup ("turn" : Str)=some v3:=rfl
theorem eM (v0 v1 v2 v3 v4 v5:V):(fD v0 v1 v2 v3 v4 v5).lookup ("factors" : Str)=some v4:=rfl
theorem iB (v0 v1 v2 v3 v4 v5:V):(fD v0 v1 v2 v3 v4 v5).lookup ("shifts" : Str)=some v5:=rfl
inductive dWz (a:Adr) (vs:List V) (H:Hp) (Q:VK) (_E:XK):Prop
 | mk (x dx v0 v1 v2 v3 v4 v5) (_:vs=[.ref x,v0,v1,v2,v3,v4,v5]) (_:H x=some (.ins a.cM dx [])) (_:Q .non (upd H x (.ins a.cM dx (fD v0 v1 v2 v3 v4 v5)))):dWz a vs H Q _E
theorem b6z:aI ["self","name","place","terms","turn","factors","shifts"] ["self","name","place","terms","turn","factors","shifts"] (defScope rZ):=by walk_at "s"
theorem pJz (T:Txt K mg a):Ok P w K mg base 1 a.lS ["self","name","place","terms","turn","factors","shifts"] (dWz a):=by
 refine bD T.dHz b6z ?b ?l ?h;walk_at "o"
 ·obtain⟨x,dx,v0,v1,v2,v3,v4,v5,rfl,_⟩:=h;rfl
 ·obtain⟨x,dx,v0,v1,v2,v3,v4,v5,rfl,hx,k⟩:=h
  refine⟨_,(aB (bR (pv 0) (gS T.bPz) rfl)
   (aB (bR (pv 0) (pv 1) rfl)
   (aB (bR (pv 0) (pv 2) rfl)
   (aB (bR (pv 0) (pv 3) rfl)
   (aB (bR (pv 0) (pv 4) rfl)
   (aB (bR (pv 0) (pv 5) rfl)
   (aE (bR (pv 0) (pv 6) rfl)))))))),?_⟩
  refine⟨_,rfl,x,_,dx,_,rfl,hx,T.aV,T.bW,(by show 0<1000;decide),?_⟩;refine⟨_,rfl,_,rfl,x,_,dx,_,rfl,aC,T.aV,T.sG,(by show 1<1000;decide),?_⟩;refine⟨_,rfl,_,rfl,x,_,dx,_,rfl,aC,T.aV,T.rH,(by show 2<1000;decide),?_⟩;refine⟨_,rfl,_,rfl,x,_,dx,_,rfl,aC,T.aV,T.gD,(by show 3<1000;decide),?_⟩;refine⟨_,rfl,_,rfl,x,_,dx,_,rfl,aC,T.aV,T.gY,(by show 4<1000;decide),?_⟩;refine⟨_,rfl,_,rfl,x,_,dx,_,rfl,aC,T.aV,T.dR,(by show 5<1000;decide),?_⟩;refine⟨_,rfl,_,rfl,x,_,dx,_,rfl,aC,T.aV,T.fM,(by show 6<1000;decide),?_⟩;dsimp only
  (try simp only [cE])
  exact k
def oY (v0 v1 v2:V):List (Str×V):=[("word",(.str "sum")),("name",v0),("place",v1),("terms",v2)]
theorem cI (v0 v1 v2:V):(oY v0 v1 v2).lookup ("word" : Str)=some (.str "sum"):=rfl
theorem eQ (v0 v1 v2:V):(oY v0 v1 v2).lookup ("terms" : Str)=some v2:=rfl
inductive hQz (a:Adr) (vs:List V) (H:Hp) (Q:VK) (_E:XK):Prop
 | mk (x dx v0 v1 v2) (_:vs=[.ref x,v0,v1,v2]) (_:H x=some (.ins a.eD dx [])) (_:Q .non (upd H x (.ins a.eD dx (oY v0 v1 v2)))):hQz a vs H Q _E
theorem d0z:aI ["self","name","place","terms"] ["self","name","place","terms"] (defScope uR):=by walk_at "s"
theorem tXz (T:Txt K mg a):Ok P w K mg base 1 a.nQ ["self","name","place","terms"] (hQz a):=by
 refine bD T.gFz d0z ?b ?l ?h;walk_at "o"
 ·obtain⟨x,dx,v0,v1,v2,rfl,_⟩:=h;rfl
 ·obtain⟨x,dx,v0,v1,v2,rfl,hx,k⟩:=h
  refine⟨_,(aB (bR (pv 0) (gS T.xFz) rfl)
   (aB (bR (pv 0) (pv 1) rfl)
   (aB (bR (pv 0) (pv 2) rfl)
   (aE (bR (pv 0) (pv 3) rfl))))),?_⟩
  refine⟨_,rfl,x,_,dx,_,rfl,hx,T.bO,T.bX,(by show 0<1000;decide),?_⟩;refine⟨_,rfl,_,rfl,x,_,dx,_,rfl,aC,T.bO,T.uY,(by show 1<1000;decide),?_⟩;refine⟨_,rfl,_,rfl,x,_,dx,_,rfl,aC,T.bO,T.sI,(by show 2<1000;decide),?_⟩;refine⟨_,rfl,_,rfl,x,_,dx,_,rfl,aC,T.bO,T.dY,(by show 3<1000;decide),?_⟩;dsimp only
  (try simp only [cE])
  exact k
def fPz (v0:V):List (Str×V):=[("text",v0),("place",(.int 0))]
inductive lPz (a:Adr) (vs:List V) (H:Hp) (Q:VK) (_E:XK):Prop
 | mk (x dx v0) (_:vs=[.ref x,v0]) (_:H x=some (.ins a.aG dx [])) (_:Q .non (upd H x (.ins a.aG dx (fPz v0)))):lPz a vs H Q _E
theorem gMz:aI ["self","text"] ["self","text"] (defScope xT):=by walk_at "s"
theorem wNz (T:Txt K mg a):Ok P w K mg base 1 a.pW ["self","text"] (lPz a):=by
 refine bD T.i6z gMz ?b ?l ?h;walk_at "o"
 ·obtain⟨x,dx,v0,rfl,_⟩:=h;rfl
 ·obtain⟨x,dx,v0,rfl,hx,k⟩:=h
  refine⟨_,(aB (bR (pv 0) (pv 1) rfl)
   (aE (bR (pv 0) aT rfl))),?_⟩
  refine⟨_,rfl,_,rfl,x,_,dx,_,rfl,hx,T.aH,T.pV,(by show 0<1000;decide),?_⟩;refine⟨_,rfl,x,_,dx,_,rfl,aC,T.aH,T.cD,(by show 1<1000;decide),?_⟩;dsimp only
  (try simp only [cE])
  exact k
def sR (v0 v1:V):List (Str×V):=[("origin",v0),("growth",v1)]
theorem jQ (v0 v1:V):(sR v0 v1).lookup ("origin" : Str)=some v0:=rfl
theorem dO (v0 v1:V):(sR v0 v1).lookup ("growth" : Str)=some v1:=rfl
theorem lV (v0 v1:V):(sR v0 v1).lookup ("at" : Str)=none:=rfl
inductive lSz (a:Adr) (vs:List V) (H:Hp) (Q:VK) (_E:XK):Prop
 | mk (x dx v0 v1) (_:vs=[.ref x,v0,v1]) (_:H x=some (.ins a.jA dx [])) (_:Q .non (upd H x (.ins a.jA dx (sR v0 v1)))):lSz a vs H Q _E
theorem gPz:aI ["self","origin","growth"] ["self","origin","growth"] (defScope xX):=by walk_at "s"
theorem m7z (T:Txt K mg a):Ok P w K mg base 1 a.pZ ["self","origin","growth"] (lSz a):=by
 refine bD T.jAz gPz ?b ?l ?h;walk_at "o"
 ·obtain⟨x,dx,v0,v1,rfl,_⟩:=h;rfl
 ·obtain⟨x,dx,v0,v1,rfl,hx,k⟩:=h
  refine⟨_,(aB (bR (pv 0) (pv 1) rfl)
   (aE (bR (pv 0) (pv 2) rfl))),?_⟩
  refine⟨_,rfl,_,rfl,x,_,dx,_,rfl,hx,T.dU,T.gZ,(by show 0<1000;decide),?_⟩;refine⟨_,rfl,_,rfl,x,_,dx,_,rfl,aC,T.dU,T.dH,(by show 1<1000;decide),?_⟩;dsimp only
  (try simp only [cE])
  exact k
def aEz (v0 v1:V):List (Str×V):=[("number",v0),("course",v1)]
theorem uZ (v0 v1:V):(aEz v0 v1).lookup ("number" : Str)=some v0:=rfl
theorem vA (v0 v1:V):(aEz v0 v1).lookup ("course" : Str)=some v1:=rfl
inductive vWz (a:Adr) (vs:List V) (H:Hp) (Q:VK) (_E:XK):Prop
 | mk (x dx v0 v1) (_:vs=[.ref x,v0,v1]) (_:H x=some (.ins a.vE dx [])) (_:Q .non (upd H x (.ins a.vE dx (aEz v0 v1)))):vWz a vs H Q _E
theorem mFz:aI ["self","number","course"] ["self","number","course"] (defScope eJz):=by walk_at "s"
theorem B1z (T:Txt K mg a):Ok P w K mg base 1 a.vY ["self","number","course"] (vWz a):=by
 refine bD T.oWz mFz ?b ?l ?h;walk_at "o"
 ·obtain⟨x,dx,v0,v1,rfl,_⟩:=h;rfl
 ·obtain⟨x,dx,v0,v1,rfl,hx,k⟩:=h
  refine⟨_,(aB (bR (pv 0) (pv 1) rfl)
   (aE (bR (pv 0) (pv 2) rfl))),?_⟩
  refine⟨_,rfl,_,rfl,x,_,dx,_,rfl,hx,T.aLz,T.pS,(by show 0<1000;decide),?_⟩;refine⟨_,rfl,_,rfl,x,_,dx,_,rfl,aC,T.aLz,T.pT,(by show 1<1000;decide),?_⟩;dsimp only
  (try simp only [cE])
  exact k
def iC (v0 v1 v2:V):List (Str×V):=[("count",v0),("factors",v1),("shifts",v2)]
theorem sQ (v0 v1 v2:V):(iC v0 v1 v2).lookup ("count" : Str)=some v0:=rfl
theorem oZ (v0 v1 v2:V):(iC v0 v1 v2).lookup ("factors" : Str)=some v1:=rfl
theorem rL (v0 v1 v2:V):(iC v0 v1 v2).lookup ("shifts" : Str)=some v2:=rfl
inductive lQz (a:Adr) (vs:List V) (H:Hp) (Q:VK) (_E:XK):Prop
 | mk (x dx v0 v1 v2) (_:vs=[.ref x,v0,v1,v2]) (_:H x=some (.ins a.eW dx [])) (_:Q .non (upd H x (.ins a.eW dx (iC v0 v1 v2)))):lQz a vs H Q _E
theorem gNz:aI ["self","count","factors","shifts"] ["self","count","factors","shifts"] (defScope xU):=by walk_at "s"
theorem m6z (T:Txt K mg a):Ok P w K mg base 1 a.pX ["self","count","factors","shifts"] (lQz a):=by
 refine bD T.i7z gNz ?b ?l ?h;walk_at "o"
 ·obtain⟨x,dx,v0,v1,v2,rfl,_⟩:=h;rfl
 ·obtain⟨x,dx,v0,v1,v2,rfl,hx,k⟩:=h
  refine⟨_,(aB (bR (pv 0) (pv 1) rfl)
   (aB (bR (pv 0) (pv 2) rfl)
   (aE (bR (pv 0) (pv 3) rfl)))),?_⟩
  refine⟨_,rfl,_,rfl,x,_,dx,_,rfl,hx,T.iF,T.nP,(by show 0<1000;decide),?_⟩;refine⟨_,rfl,_,rfl,x,_,dx,_,rfl,aC,T.iF,T.jM,(by show 1<1000;decide),?_⟩;refine⟨_,rfl,_,rfl,x,_,dx,_,rfl,aC,T.iF,T.lR,(by show 2<1000;decide),?_⟩;dsimp only
  (try simp only [cE])
  exact k
def qF (v0 v1 v2:V):List (Str×V):=[("name",v0),("argument",v1),("members",v2)]
theorem bQz (v0 v1 v2:V):(qF v0 v1 v2).lookup ("name" : Str)=some v0:=rfl
theorem gE (v0 v1 v2:V):(qF v0 v1 v2).lookup ("argument" : Str)=some v1:=rfl
theorem lT (v0 v1 v2:V):(qF v0 v1 v2).lookup ("members" : Str)=some v2:=rfl
inductive vVz (a:Adr) (vs:List V) (H:Hp) (Q:VK) (_E:XK):Prop
 | mk (x dx v0 v1 v2) (_:vs=[.ref x,v0,v1,v2]) (_:H x=some (.ins a.nH dx [])) (_:Q .non (upd H x (.ins a.nH dx (qF v0 v1 v2)))):vVz a vs H Q _E
theorem mDz:aI ["self","name","argument","members"] ["self","name","argument","members"] (defScope eHz):=by walk_at "s"
theorem BZz (T:Txt K mg a):Ok P w K mg base 1 a.vW ["self","name","argument","members"] (vVz a):=by
 refine bD T.oUz mDz ?b ?l ?h;walk_at "o"
 ·obtain⟨x,dx,v0,v1,v2,rfl,_⟩:=h;rfl
 ·obtain⟨x,dx,v0,v1,v2,rfl,hx,k⟩:=h
  refine⟨_,(aB (bR (pv 0) (pv 1) rfl)
   (aB (bR (pv 0) (pv 2) rfl)
   (aE (bR (pv 0) (pv 3) rfl)))),?_⟩
  refine⟨_,rfl,_,rfl,x,_,dx,_,rfl,hx,T.jZ,T.vU,(by show 0<1000;decide),?_⟩;refine⟨_,rfl,_,rfl,x,_,dx,_,rfl,aC,T.jZ,T.fA,(by show 1<1000;decide),?_⟩;refine⟨_,rfl,_,rfl,x,_,dx,_,rfl,aC,T.jZ,T.iW,(by show 2<1000;decide),?_⟩;dsimp only
  (try simp only [cE])
  exact k
def yO:List (Str×V):=[("sky",.non)]
inductive lRz (a:Adr) (vs:List V) (H:Hp) (Q:VK) (_E:XK):Prop
 | mk (x dx) (_:vs=[.ref x]) (_:H x=some (.ins a.bJ dx [])) (_:Q .non (upd H x (.ins a.bJ dx (yO)))):lRz a vs H Q _E
theorem gOz:aI ["self"] ["self"] (defScope xW):=by walk_at "s"
theorem wOz (T:Txt K mg a):Ok P w K mg base 1 a.pY ["self"] (lRz a):=by
 refine bD T.i9z gOz ?b ?l ?h;walk_at "o"
 ·obtain⟨x,dx,rfl,_⟩:=h;rfl
 ·obtain⟨x,dx,rfl,hx,k⟩:=h
  refine⟨_,(aE (bR (pv 0) AOz rfl)),?_⟩;refine⟨_,rfl,x,_,dx,_,rfl,hx,T.cB,T.mZ,(by show 0<1000;decide),?_⟩;dsimp only
  (try simp only [cE])
  exact k
def sS (v0 v1 v2 v3:V):List (Str×V):=[("number",v0),("given",v1),("row",v2),("behind",v3)]
theorem aL (v0 v1 v2 v3:V):(sS v0 v1 v2 v3).lookup ("number" : Str)=some v0:=rfl
theorem iD (v0 v1 v2 v3:V):(sS v0 v1 v2 v3).lookup ("given" : Str)=some v1:=rfl
theorem fQz (v0 v1 v2 v3:V):(sS v0 v1 v2 v3).lookup ("row" : Str)=some v2:=rfl
theorem hCz (v0 v1 v2 v3:V):(sS v0 v1 v2 v3).lookup ("behind" : Str)=some v3:=rfl
inductive o4z (a:Adr) (vs:List V) (H:Hp) (Q:VK) (_E:XK):Prop
 | mk (x dx v0 v1 v2 v3) (_:vs=[.ref x,v0,v1,v2,v3]) (_:H x=some (.ins a.kK dx [])) (_:Q .non (upd H x (.ins a.kK dx (sS v0 v1 v2 v3)))):o4z a vs H Q _E
theorem mHz:aI ["self","number","given","row","behind"] ["self","number","given","row","behind"] (defScope eLz):=by walk_at "s"
theorem B2z (T:Txt K mg a):Ok P w K mg base 1 a.vZ ["self","number","given","row","behind"] (o4z a):=by
 refine bD T.oYz mHz ?b ?l ?h;walk_at "o"
 ·obtain⟨x,dx,v0,v1,v2,v3,rfl,_⟩:=h;rfl
 ·obtain⟨x,dx,v0,v1,v2,v3,rfl,hx,k⟩:=h
  refine⟨_,(aB (bR (pv 0) (pv 1) rfl)
   (aB (bR (pv 0) (pv 2) rfl)
   (aB (bR (pv 0) (pv 3) rfl)
   (aE (bR (pv 0) (pv 4) rfl))))),?_⟩
  refine⟨_,rfl,_,rfl,x,_,dx,_,rfl,hx,T.bC,T.aN,(by show 0<1000;decide),?_⟩;refine⟨_,rfl,_,rfl,x,_,dx,_,rfl,aC,T.bC,T.gO,(by show 1<1000;decide),?_⟩;refine⟨_,rfl,_,rfl,x,_,dx,_,rfl,aC,T.bC,T.zT,(by show 2<1000;decide),?_⟩;refine⟨_,rfl,_,rfl,x,_,dx,_,rfl,aC,T.bC,T.yH,(by show 3<1000;decide),?_⟩;dsimp only
  (try simp only [cE])
  exact k
open Tide Ts
theorem xCz {J:It} {g:TG} {tt:TT} {te:TE} {vs:List Nat} {σ : L2.St} {Q:VK} {D:Addr} {H0:Hp} (n:Nat) (Pv:Nat→Hp→Prop) (h0:Pv 0 (upd H0 D (.lst [])))
  (hend:∀H,Pv n H→J.stop n H∧Q (.ref D) H)
  (hstep:∀i H,i<n→Pv i H→J.go i H∧∀x H',J.yld i H x H'→g x (wipe σ vs) H' fun σ2 H2=>wipe σ2 vs=wipe σ vs∧tt σ2 H2 fun b H3 =>
   if b=true then te σ2 H3 fun y H4=>∃acc,H4 D=some (.lst acc)∧acc.length<sizeLine∧Pv (i+1) (upd H4 D (.lst (acc++[y]))) else Pv (i+1) H3) :
  ∃W:Nat→Nat→Hp→Prop,(∃m,W 0 m (upd H0 D (.lst [])))∧∀i m H,W i m H→
   (J.stop i H∧Q (.ref D) H)∨(J.go i H∧∃Nx:Hp→Prop,(∀H',Nx H'→∃m',m'<m∧W (i+1) m' H')∧∀x H',J.yld i H x H'→g x (wipe σ vs) H' fun σ2 H2=>wipe σ2 vs=wipe σ vs∧tt σ2 H2 fun b H3 =>
    if b=true then te σ2 H3 fun y H4=>∃acc,H4 D=some (.lst acc)∧acc.length<sizeLine∧Nx (upd H4 D (.lst (acc++[y]))) else Nx H3):=by
 refine⟨fun i m H=>i≤n∧m=n-i∧Pv i H,⟨n,Nat.zero_le _,rfl,h0⟩,fun i m H hw=>?_⟩;obtain⟨h1,h2,h3⟩:=hw;rcases Nat.lt_or_ge i n with hlt | hge
 ·obtain⟨hg,hs⟩:=hstep i H hlt h3
  refine .inr ⟨hg,fun H'=>Pv (i+1) H',fun H' hp=>⟨n-(i+1),by omega,by omega,rfl,hp⟩,hs⟩
 ·have e:i=n:=by omega
  subst e;exact .inl (hend H h3)
def bV (b:Bytes):List V:=b.map fun x=>V.int (x.toNat:Int)
def kOf (b:Bytes):List Key:=b.map fun x=>Sum.inl (x.toNat:Int)
theorem vF (b:Bytes):(kOf b).map kV=bV b:=by unfold kOf bV;rw [List.map_map];rfl
theorem kBz {b c:Bytes} (h:kOf b=kOf c):b=c:=by
 unfold kOf at h;refine (List.map_inj_right (fun x y e=>?_)).mp h;have e1:(x.toNat:Int)=y.toNat:=Sum.inl.inj e;exact UInt8.toNat_inj.mp (by omega)
theorem bU (b:Bytes):(bV b).length=b.length:=List.length_map _
theorem kM (b c:Bytes):bV (b++c)=bV b++bV c:=List.map_append
def cV (x:Str):List V:=x.cps.toList.map fun c:Nat=>V.int (c:Int)
theorem kL (x:Str):(cV x).length=x.length:=by unfold cV;rw [List.length_map];rfl
theorem bQ {α : Type} {l:List α} {i:Nat} {x : α} (h:l[i]?=some x):l.take (i+1)=l.take i++[x]:=by
 rw [List.take_add_one,h];rfl
theorem jNz:aI ["word","sign"] ["word"] (defScope v2z):=by walk_at "s"
inductive rMz (vs:List V) (H:Hp) (Q:VK) (_E:XK):Prop
 | mk (x:Str) (_:vs=[.str x]) (_:x.length≤100000) (_:∀D,H D=none→Q (.ref D) (upd H D (.lst (cV x)))):rMz vs H Q _E
theorem yD (T:Txt K mg a):Ok P w K mg base 1 a.p9z ["word"] rMz:=by
 refine bD T.BBz jNz ?b ?l ?h;walk_at "o"
 ·obtain⟨x,rfl,_⟩:=h;rfl
 ·obtain⟨x,rfl,hl,k⟩:=h
  refine⟨_,(aE (aR (jVz (own:=[("sign",1)]) rfl jNz.nd (AKz (pv 0)) (kW (by rfl)) (fun _ _ _ _ _=>(cZ (i:=1) jNz.nd rfl (Or.inl rfl))) (fun _ _ _ _ _=>sC) (fun _ _ _ _ _=>(bH sYz (by rfl) T.bKz A1z (aA (pv 1) aD)))))),?_⟩;have hl':x.cps.size≤100000:=hl;refine⟨_,rfl,x,rfl,fun D hD=>xCz x.cps.size (fun i H'=>H'=upd H D (.lst ((cV x).take i))) rfl (fun H' e=>⟨Nat.le_refl _,?_⟩) (fun i H' hi e=>⟨hi,fun y H2 hy=>?_⟩)⟩
  ·subst e
   have e2:(cV x).take x.cps.size=cV x:=List.take_of_length_le (by rw [kL];exact Nat.le_refl _);rw [e2];exact k D hD
  ·subst e
   obtain⟨rfl,c,hc,rfl⟩:=hy;refine⟨rfl,?_⟩;simp only [tYes,if_true];refine⟨_,rfl,⟨#[c]⟩,rfl,rfl,_,aC,?_,?_⟩
   ·rw [List.length_take,kL,sizeLine_eq]
    have:x.length≤100000:=hl
    omega
   ·show _=_
    rw [cE];have h2:(cV x)[i]?=some (V.int (c:Int)):=by
     unfold cV;rw [List.getElem?_map,show x.cps.toList[i]?=some c from by rw [Array.getElem?_toList];exact hc];rfl
    rw [bQ h2];rfl
structure Kp (C:Addr) (H H':Hp):Prop where
 keep:∀b o,H b=some o→(∀dx fs,o≠.ins C dx fs)→H' b=some o
 free:∀b,H' b=none→H b=none
theorem Kp.refl (C:Addr) (H:Hp):Kp C H H:=⟨fun _ _ h _=>h,fun _ h=>h⟩
theorem Kp.trans {C:Addr} {H H1 H2:Hp} (x:Kp C H H1) (y:Kp C H1 H2):Kp C H H2:=⟨fun b o h n=>y.keep b o (x.keep b o h n) n,fun b h=>x.free b (y.free b h)⟩
theorem Kp.same {C:Addr} {H H':Hp} (x:Same H H'):Kp C H H':=⟨fun b o h _=>x b o h,fun _ h=>x.free h⟩
theorem Kp.upd {C r dx:Addr} {fs:List (Str×V)} {H:Hp} {o:HO} (h:H r=some (.ins C dx fs)):Kp C H (upd H r o):=⟨fun b u hb n=>by
 have hne:b≠r:=fun z=>by rw [z,h] at hb;cases hb;exact n dx fs rfl
 rw [aO hne];exact hb,fun b hb=>by
 by_cases z:b=r
 ·rw [z,aC] at hb;cases hb
 ·rw [aO z] at hb;exact hb⟩
theorem aF {H:Hp} {p:Addr} {o:HO} (h:H p=none):Same H (upd H p o):=fun b u hb=>by rw [aO (aX hb h)];exact hb
theorem Kp.new {C:Addr} {H:Hp} {p:Addr} {o:HO} (h:H p=none):Kp C H (L2.upd H p o) := .same (aF h)
theorem Kp.put {C:Addr} {H H1:Hp} {p:Addr} {o:HO} (x:Kp C H H1) (h:H p=none):Kp C H (L2.upd H1 p o):=⟨fun b u hb n=>by rw [aO (aX hb h)];exact x.keep b u hb n,fun b hb=>by
 by_cases z:b=p
 ·rw [z];exact h
 ·rw [aO z] at hb;exact x.free b hb⟩
def mkH (H:Hp) (x dx C:Addr) (fs:List (Str×V)):Hp:=upd (upd H dx (.own x)) x (.ins C dx fs)
theorem iH {H:Hp} {x dx C:Addr} {fs:List (Str×V)}:mkH H x dx C fs x=some (.ins C dx fs):=aC
theorem dS {H:Hp} {x dx C:Addr} {fs:List (Str×V)} (h1:H x=none) (h2:H dx=none):Same H (mkH H x dx C fs):=fun b o hb=>by
 unfold mkH;rw [aO (aX hb h1),aO (aX hb h2)];exact hb
theorem kJ {H:Hp} {x dx C:Addr} {fs:List (Str×V)}:upd (upd (upd H dx (.own x)) x (.ins C dx [])) x (.ins C dx fs)=mkH H x dx C fs:=cE
def flt (k p:Int):List (Str×V):=[("kind",.int k),("place",.int p)]
def hJz (H:Hp) (d:Addr) (k p:Int):Prop:=H d=some (nsO d (flt k p))
theorem sTz:typeLookup (.type "Exception") "kind" = pure none:=by rw [typeLookup_type,builtinLookup_eq_fast];kernel_rfl
theorem nXz:typeLookup (.type "Exception") "place" = pure none:=by rw [typeLookup_type,builtinLookup_eq_fast];kernel_rfl
inductive zF (a:Adr) (vs:List V) (H:Hp) (Q:VK) (_E:XK):Prop
 | mk (ea t k p) (_:vs=[.ref ea,.int k,.int p]) (_:H ea=some (excO ea a.bG t none)) (_:∀d,H d=none→d≠ea→Q .non (upd (upd (upd H d (nsO d [("kind",.int k)])) ea (excO ea a.bG t (some d))) d (nsO d (flt k p)))):zF a vs H Q _E
theorem d3z:aI ["self","kind","place"] ["self","kind","place"] (defScope uU):=by walk_at "s"
theorem tYz (T:Txt K mg a):Ok P w K mg base 1 a.iY ["self","kind","place"] (zF a):=by
 refine bD T.gIz d3z ?b ?l ?h;walk_at "o"
 ·obtain⟨ea,t,k,p,rfl,_⟩:=h;rfl
 ·obtain⟨ea,t,k,p,rfl,he,kk⟩:=h
  refine⟨_,aB (ps_x1 (pv 0) (pv 1) T.jC (by decide +kernel) (by decide +kernel) sTz rfl) (aE (ps_x2 (pv 0) (pv 2) T.jC (by decide +kernel) (by decide +kernel) nXz rfl)),?_⟩;refine⟨_,rfl,_,rfl,ea,t,rfl,he,fun d hd hne=>?_⟩;refine⟨_,rfl,_,rfl,ea,t,d,_,rfl,aC,(by rw [aO hne,aC]),hne,(by show 1<1000;decide),?_⟩;exact kk d hd hne
def kVz (X:Cx) (a:Adr) (E:XK) (vs:List V) (H1:Hp):Prop:=vs.length≤100∧∀ea ta,H1 ea=none→X.s_0.heap.get? ea=none→zF a (.ref ea::vs) (upd H1 ea (excO ea a.bG ta none)) (fun v H2=>v = .non∧
 ∃ea' C t d init no,V.ref ea = .ref ea'∧exIn X.K C init no=true∧H2 ea'=some (excO ea' C t d)∧X.s_0.heap.get? ea'=none∧E (.ref C) d (unT H2 ea')) EN
def tFault (X:Cx) (a:Adr) (t1 t2:TE) (E:XK):TS:=fun _ σ H=>t1 σ H fun x H1=>t2 σ H1 fun y H2=>kVz X a E [x,y] H2
theorem sV {X:Cx} {E:XK} {k p:Int} {H:Hp} (T:Txt X.K X.mg a) (h:∀H' d,Same H H'→hJz H' d k p→E (.ref a.bG) (some d) H'):kVz X a E [.int k,.int p] H:=by
 refine⟨(by show 2≤100;decide),fun ea ta n1 n2=>⟨ea,ta,k,p,rfl,aC,fun d hd hne=>⟨rfl,ea,a.bG,ta,some d,_,_,rfl,T.jC,?_,n2,h _ d (fun b o hb=>?_) ?_⟩⟩⟩
 ·rw [aO (Ne.symm hne),aC]
 ·have h1:b≠ea:=aX hb n1
  have h2:b≠d:=fun z=>by
   rw [z] at hb;rw [aO hne,hb] at hd;cases hd
  rw [rEz h1,aO h2,aO h1,aO h2,aO h1];exact hb
 ·show unT _ ea d=_
  rw [rEz hne,aC]
theorem xY {X:Cx} {E:XK} {e1 e2:Expr} {t1 t2:TE} {p cpos pos:Pos} (T:Txt X.K X.mg a) (hr:Room 2 X.A) (hx:X.ex=[]) (hc:X.calm=true) (hR:tBz X E) (h1:PE X e1 t1) (h2:PE X e2 t2) (hg:Gl X "AtFault" := by rfl)
  (he1:starEach [e1,e2] X.env=(false,eval e1 X.env)::starEach [e2] X.env:=by rfl) (he2:starEach [e2] X.env=(false,eval e2 X.env)::starEach [] X.env:=by rfl) (hpl:(backTo cpos (starEach [e2] X.env)).any (·.1)=false:=by rfl) :
  PS X (.Raise (some (.Call (.Name "AtFault" p) [e1,e2] [] cpos)) none pos) (tFault X a t1 t2 E):=by
 obtain⟨fd,F1,hb,hk⟩:=tYz (P:=X.prog) (w:=X.w) (base:=X.base) T;have hfn:=T.fOz;unfold W.isFn W.typeIn at hfn;obtain⟨oI,hl,hcl⟩:=Option.map_eq_some_iff.mp (beq_iff_eq.mp hfn);intro pins s1 σ H1 D I h;exact rXz (E:=E) (BTz (p:=p) (pos:=cpos) T.jC hl hcl F1 hr hb passN hx T.uGz hg T.nSz (aA h1 (aA h2 aD he2) he1) (by decide) he1 hpl) hc hR pins s1 σ H1 D I h
def tR0 (C:Addr) (E:XK):TS:=fun _ _ H=>E (.ref C) none H
theorem wCz {X:Cx} {E:XK} {x:Str} {C:Addr} {no:List Str} {p cpos pos:Pos} (q:exIn X.K C none no=true) (hk:W.keepIn X.K (.ref C)=true) (hm:X.mg x=some (.ref C)) (hx:X.ex=[]) (hc:X.calm=true) (hR:tBz X E) (hg:Gl X x:=by rfl) (hdb:(x == ("__debug__" : Str))=false:=by decide) :
  PS X (.Raise (some (.Call (.Name x p) [] [] cpos)) none pos) (tR0 C E):=by
 intro pins s1 σ H1 D I h;refine rXz (E:=E) (BUz (p:=p) (pos:=cpos) q hx hk hg hm hdb) hc hR pins s1 σ H1 D I fun ea t n1 n2=>⟨ea,C,t,none,none,no,rfl,q,aC,n2,?_⟩;rw [A9z n1];exact h
def fR (t p:V):List (Str×V):=[("text",t),("place",p)]
theorem xXz (t p:V):(fR t p).lookup ("text" : Str)=some t:=rfl
theorem nE (t p:V):(fR t p).lookup ("place" : Str)=some p:=rfl
theorem fR_put (t p q:V):putF "place" q (fR t p)=fR t q:=rfl
inductive bE (a:Adr) (H:Hp) (r tl:Addr) (txt:Bytes) (p:Nat):Prop
 | mk (dx) (_:H r=some (.ins a.aG dx (fR (.ref tl) (.int p)))) (_:H tl=some (.lst (bV txt))) (_:txt.length≤16000) (_:p≤txt.length):bE a H r tl txt p
theorem bE.same {H H':Hp} {r tl:Addr} {txt:Bytes} {p:Nat} (x:bE a H r tl txt p) (s:Same H H'):bE a H' r tl txt p:=let ⟨dx,h1,h2,h3,h4⟩:=x;⟨dx,s _ _ h1,s _ _ h2,h3,h4⟩
def ahd (txt:Bytes) (p:Nat):Int:=match txt[p]? with | some x=>(x.toNat:Int) | none => -1
theorem yS {txt:Bytes} {p:Nat} {x:UInt8} (h:txt[p]?=some x):ahd txt p=(x.toNat:Int):=by unfold ahd;rw [h]
theorem cZz {txt:Bytes} {p:Nat} (h:txt[p]?=none):ahd txt p = -1:=by unfold ahd;rw [h]
theorem b7z:aI ["self"] ["self"] (defScope sA):=by walk_at "s"
inductive lOz (a:Adr) (vs:List V) (H:Hp) (Q:VK) (_E:XK):Prop
 | mk (r tl txt p) (_:vs=[.ref r]) (_:bE a H r tl txt p) (_:Q (.bl (decide (p=txt.length))) H):lOz a vs H Q _E
theorem m3z (T:Txt K mg a):Ok P w K mg base 1 a.eA ["self"] (lOz a):=by
 refine bD T.dIz b7z ?b ?l ?h;walk_at "o"
 ·obtain⟨r,tl,txt,p,rfl,_⟩:=h;rfl
 ·obtain⟨r,tl,txt,p,rfl,⟨dx,h1,h2,h3,h4⟩,k⟩:=h
  refine⟨_,(aE (aR (pO gW (aM (pv 0) rfl) (bH bT (by rfl) T.mX nI (aA (aM (pv 0) rfl) aD)) (nomark _)))),?_⟩;refine⟨_,rfl,r,_,dx,_,_,rfl,h1,T.aH,T.cD,nE _ _,_,rfl,r,_,dx,_,_,rfl,h1,T.aH,T.pV,xXz _ _,tl,_,rfl,.inl (SqL.of h2),rfl,?_⟩;have e:decide (V.int (p:Int)=V.int ((bV txt).length:Int))=decide (p=txt.length):=by
   rw [bU]
   by_cases z:p=txt.length
   ·rw [decide_eq_true z,z];simp
   ·rw [decide_eq_false z]
    refine decide_eq_false fun y=>z ?_
    have:=V.int.inj y
    omega
  show Q (V.bl (decide (V.int (p:Int)=V.int ((bV txt).length:Int)))) H;rw [e];exact k
theorem d1z:aI ["self"] ["self"] (defScope uS):=by walk_at "s"
inductive rOz (a:Adr) (vs:List V) (H:Hp) (Q:VK) (_E:XK):Prop
 | mk (r tl txt p) (_:vs=[.ref r]) (_:bE a H r tl txt p) (_:Q (.int (ahd txt p)) H):rOz a vs H Q _E
theorem yE (T:Txt K mg a):Ok P w K mg base 2 a.bM ["self"] (rOz a):=by
 have mG := @m3z P w K mg base a T;refine bD T.gGz d1z ?b ?l ?h;walk_at "o"
 ·obtain⟨r,tl,txt,p,rfl,_⟩:=h;rfl
 ·obtain⟨r,tl,txt,p,rfl,hR,k⟩:=h
  obtain⟨dx,h1,h2,h3,h4⟩:=id hR
  refine⟨_,(aB (dE (eO (pm0 (pv 0) T.aH T.eA mG (hr.mono (by decide)) passN)) (aE (aR (gI T.xJz))) bA)
   (aE (aR (pN fC (aM (pv 0) rfl) (aM (pv 0) rfl) (fun _ _=>rfl))))),?_⟩
  refine⟨_,rfl,r,dx,_,rfl,h1,rfl,r,tl,txt,p,rfl,hR,_,rfl,?_⟩;refine ite2 (fun e=>?_) fun e=>?_
  ·have e':p=txt.length:=of_decide_eq_true e
   have:txt[p]?=none:=List.getElem?_eq_none (by omega)
   rw [cZz this] at k;exact k
  ·have e':¬ p=txt.length:=fun z=>e (decide_eq_true z)
   have hp:p<txt.length:=by omega
   have hx:txt[p]?=some txt[p]:=List.getElem?_eq_getElem hp;rw [yS hx] at k;refine⟨_,rfl,r,_,dx,_,_,rfl,h1,T.aH,T.pV,xXz _ _,_,rfl,r,_,dx,_,_,rfl,h1,T.aH,T.cD,nE _ _,tl,_,_,_,rfl,rfl,SqL.of h2,fF (v:=V.int (txt[p].toNat:Int)) ?_,k⟩;unfold bV;rw [List.getElem?_map,hx];rfl
theorem CPz {x:Str} {g:TG} {tb:TS} {D:Ends} {σ : L2.St} {H:Hp} (Pv:Nat→L2.St→Hp→Prop) (h0:Pv 0 σ H)
  (hs:∀(i c:Nat) σ H,x.cps[i]?=some c→Pv i σ H→g (.str ⟨#[c]⟩) σ H fun σ2 H2=>tb {D with nx:=Pv (i+1),ct:=Pv (i+1),bk:=D.nx} σ2 H2) (hd:∀σ H,Pv x.cps.size σ H→D.nx σ H) :
  ∃W:Nat→Nat→L2.St→Hp→Prop,(∃m,W 0 m σ H)∧∀i m σ H,W i m σ H→
   ((Its x).stop i H∧D.nx σ H)∨((Its x).go i H∧∃N:L2.St→Hp→Prop,(∀σ' H',N σ' H'→∃m',m'<m∧W (i+1) m' σ' H')∧∀y H',(Its x).yld i H y H'→g y σ H' fun σ2 H2=>tb {D with nx:=N,ct:=N,bk:=D.nx} σ2 H2):=by
 refine⟨fun i m σ H=>m=x.cps.size-i∧i≤x.cps.size∧Pv i σ H,⟨x.cps.size,by simp,Nat.zero_le _,h0⟩,?_⟩;rintro i m σ H ⟨rfl,hi,p⟩
 by_cases hlt:i<x.cps.size
 ·refine .inr ⟨hlt,Pv (i+1),fun σ' H' p'=>⟨x.cps.size-(i+1),by omega,rfl,hlt,p'⟩,fun y H' q=>?_⟩
  obtain⟨rfl,c,hc,rfl⟩:=q;exact hs i c σ _ hc p
 ·have e:i=x.cps.size:=by omega
  subst e;exact .inl ⟨Nat.le_refl _,hd σ H p⟩
def Rs (a:Adr) (H:Hp) (r tl:Addr) (txt:Bytes) (E:XK) {α : Type} (x:Except Nat α) (at_ : α→Nat) (k : α→Hp→Prop):Prop:=match x with
 | .ok v=>∀H',Kp a.aG H H'→bE a H' r tl txt (at_ v)→k v H'
 | .error q=>∀H' d,Kp a.aG H H'→hJz H' d 1 q→E (.ref a.bG) (some d) H'
theorem Rs.split {H:Hp} {r tl:Addr} {txt:Bytes} {E:XK} {α : Type} {x:Except Nat α} {at_ : α→Nat} {k : α→Hp→Prop} (he:∀q,x = .error q→∀H' d,Kp a.aG H H'→hJz H' d 1 q→E (.ref a.bG) (some d) H')
  (ho:∀v,x = .ok v→∀H',Kp a.aG H H'→bE a H' r tl txt (at_ v)→k v H'):Rs a H r tl txt E x at_ k:=by
 cases x with
 | ok v=>exact ho v rfl
 | error q=>exact he q rfl
def inZ (Z:Bytes) (txt:Bytes) (p:Nat):Bool:=nextIs (fun x=>Z.contains x) (cur txt p)
theorem dX {Z txt:Bytes} {p:Nat} {x:UInt8} (h:txt[p]?=some x):inZ Z txt p=Z.contains x:=cS h
theorem tT {Z txt:Bytes} {p:Nat} (h:txt[p]?=none):inZ Z txt p=false:=gG h
theorem CIz (Z txt:Bytes) (p:Nat):inV (.int (ahd txt p)) (bV Z)=inZ Z txt p:=by
 unfold inV bV;rw [List.any_map];cases h:txt[p]? with
 | none =>
  rw [tT h,cZz h];refine List.any_eq_false.mpr fun x hx=>?_;show ¬ ((x.toNat:Int) == -1)=true;intro e
  have:=eq_of_beq e
  omega
 | some y =>
  rw [dX h,yS h];rw [Bool.eq_iff_iff,List.any_eq_true,List.contains_iff_mem];constructor
  ·rintro⟨x,hx,e⟩
   have e':((x.toNat:Int) == (y.toNat:Int))=true:=e;have e2:x=y:=UInt8.toNat_inj.mp (by have:=eq_of_beq e';omega);rw [← e2];exact hx
  ·intro hy
   refine⟨y,hy,?_⟩;show ((y.toNat:Int) == (y.toNat:Int))=true;exact beq_self_eq_true _
theorem CQz (Z:Bytes):(bV Z).all flatV=true:=by
 unfold bV;rw [List.all_map];exact List.all_eq_true.mpr fun _ _=>rfl
theorem gKz:aI ["self","signs"] ["self","signs"] (defScope xR):=by walk_at "s"
inductive o2z (a:Adr) (vs:List V) (H:Hp) (Q:VK) (_E:XK):Prop
 | mk (r tl txt p z Z) (_:vs=[.ref r,.str z]) (_:cV z=bV Z) (_:Z.length≤100) (_:bE a H r tl txt p) (_:∀H',Same H H'→Q (.bl (inZ Z txt p)) H'):o2z a vs H Q _E
theorem pP (T:Txt K mg a):Ok P w K mg base 3 a.aW ["self","signs"] (o2z a):=by
 have bN := @yE P w K mg base a T;have iV := @yD P w K mg base a T;refine bD T.i4z gKz ?b ?l ?h;walk_at "o"
 ·obtain⟨r,tl,txt,p,z,Z,rfl,_⟩:=h;rfl
 ·obtain⟨r,tl,txt,p,z,Z,rfl,hz,hl,hR,k⟩:=h
  obtain⟨dx,h1,h2,h3,h4⟩:=id hR;refine⟨_,(aE (aR (pO mUz (pm0 (pv 0) T.aH T.bM bN (hr.mono (by decide)) passN) (pc iV (hr.mono (by decide)) (by rfl) T.qE passN (aA (pv 1) aD)) (by rfl)))),?_⟩;have hlen:z.length≤100000:=by rw [← kL,hz,bU];omega
  refine⟨_,rfl,r,dx,_,rfl,h1,rfl,r,tl,txt,p,rfl,hR,_,rfl,z,rfl,hlen,fun D hD=>?_⟩;refine⟨D,_,rfl,.inl (SqL.of aC),rfl,(by rw [hz];exact CQz Z),?_⟩;show Q (.bl (inV (.int (ahd txt p)) (cV z))) _;rw [hz,CIz];exact k _ (aF hD)
theorem uL:aI ["self","byte"] ["self"] (defScope xQ):=by walk_at "s"
inductive jHz (a:Adr) (vs:List V) (H:Hp) (Q:VK) (_E:XK):Prop
 | mk (r tl txt p x) (_:vs=[.ref r]) (_:bE a H r tl txt p) (_:txt[p]?=some x) (_:∀H',Kp a.aG H H'→bE a H' r tl txt (p+1)→Q (.int (x.toNat:Int)) H'):jHz a vs H Q _E
theorem eQz (T:Txt K mg a):Ok P w K mg base 3 a.cH ["self"] (jHz a):=by
 have bN := @yE P w K mg base a T;refine bD T.i3z uL ?b ?l ?h;walk_at "o"
 ·obtain⟨r,tl,txt,p,x,rfl,_⟩:=h;rfl
 ·obtain⟨r,tl,txt,p,x,rfl,hR,hx,k⟩:=h
  obtain⟨dx,h1,h2,h3,h4⟩:=id hR
  refine⟨_,(aB (aP (i:=1) uL.nd rfl (Or.inl rfl) (pm0 (pv 0) T.aH T.bM bN (hr.mono (by decide)) passN))
   (aB (bR (pv 0) (aZ gN (aM (pv 0) rfl) aT) rfl)
   (aE (aR (pv 1))))),?_⟩
  have hp:=fZ hx;refine⟨_,rfl,r,dx,_,rfl,h1,rfl,r,tl,txt,p,rfl,hR,?_⟩;refine⟨_,rfl,r,_,dx,_,_,rfl,h1,T.aH,T.cD,nE _ _,_,_,rfl,rfl,_,rfl,r,_,dx,_,rfl,h1,T.aH,T.cD,(by show 2<1000;decide),?_⟩;refine⟨_,rfl,?_⟩;rw [fR_put];show Q (.int (ahd txt p)) _;rw [yS hx];refine k _ (Kp.upd h1) ⟨dx,aC,?_,h3,hp⟩;rw [aO (nBz h2 h1 (by intro z;cases z))];exact h2
theorem tY:aI ["self"] ["self"] (defScope lM):=by walk_at "s"
inductive xF (a:Adr) (vs:List V) (H:Hp) (Q:VK) (_E:XK):Prop
 | mk (r tl txt p x) (_:vs=[.ref r]) (_:bE a H r tl txt p) (_:txt[p]?=some x) (_:∀H',Kp a.aG H H'→bE a H' r tl txt (p+1)→Q (.int ((x.toNat:Int)-48)) H'):xF a vs H Q _E
theorem yB (T:Txt K mg a):Ok P w K mg base 4 a.bL ["self"] (xF a):=by
 have cK := @eQz P w K mg base a T;refine bD T.vL tY ?b ?l ?h;walk_at "o"
 ·obtain⟨r,tl,txt,p,x,rfl,_⟩:=h;rfl
 ·obtain⟨r,tl,txt,p,x,rfl,hR,hx,k⟩:=h
  obtain⟨dx,h1,h2,h3,h4⟩:=id hR;refine⟨_,(aE (aR (aZ oV (pm0 (pv 0) T.aH T.cH cK (hr.mono (by decide)) passN) (vP 48 T.bKz)))),?_⟩;exact⟨_,rfl,r,dx,_,rfl,h1,rfl,r,tl,txt,p,x,rfl,hR,hx,fun H' kp hR'=>⟨_,_,rfl,rfl,k H' kp hR'⟩⟩
theorem gLz:aI ["self","fits"] ["self","fits"] (defScope xS):=by walk_at "s"
inductive vUz (a:Adr) (vs:List V) (H:Hp) (Q:VK) (E:XK):Prop
 | mk (r tl txt p c) (_:vs=[.ref r,.bl c]) (_:bE a H r tl txt p) (_:(c=true→Q .non H)) (_:(c=false→∀H' d,Same H H'→hJz H' d 1 p→E (.ref a.bG) (some d) H')):vUz a vs H Q E
theorem eTz (T:Txt K mg a):Ok P w K mg base 3 a.cU ["self","fits"] (vUz a):=by
 refine bD T.i5z gLz ?b ?l ?h;walk_at "o"
 ·obtain⟨r,tl,txt,p,c,rfl,_⟩:=h;rfl
 ·obtain⟨r,tl,txt,p,c,rfl,hR,k1,k2⟩:=h
  obtain⟨dx,h1,h2,h3,h4⟩:=id hR;refine⟨_,(aE (dE (rWz (eO (pv 1))) (aE (xY T (hr.mono (by decide)) rfl rfl raiseX (gI T.xKz) (aM (pv 0) rfl))) bA)),?_⟩;refine⟨_,rfl,c,rfl,?_⟩;cases c with
  | true=>exact iteF (k1 rfl)
  | false =>
   refine iteT ?_;exact⟨_,rfl,r,_,dx,_,_,rfl,h1,T.aH,T.cD,nE _ _,sV T (k2 rfl)⟩
theorem lH:aI ["self","word","sign"] ["self","word"] (defScope mT):=by walk_at "s"
inductive gM (a:Adr) (vs:List V) (H:Hp) (Q:VK) (E:XK):Prop
 | mk (r tl txt p z W) (_:vs=[.ref r,.str z]) (_:cV z=bV W) (_:W.length≤100) (_:bE a H r tl txt p) (_:Rs a H r tl txt E (lit W (cur txt p)) Cur.at_ fun _ H'=>Q .non H'):gM a vs H Q E
theorem dQ (T:Txt K mg a):Ok P w K mg base 5 a.aQ ["self","word"] (gM a):=by
 have aS := @pP P w K mg base a T;have cX := @eTz P w K mg base a T;have cK := @eQz P w K mg base a T;refine bD T.xD lH ?b ?l ?h;walk_at "o"
 ·obtain⟨r,tl,txt,p,z,W,rfl,_⟩:=h;rfl
 ·obtain⟨r,tl,txt,p,z,W,rfl,hz,hl,hR,k⟩:=h
  refine⟨_,(aE (lN PassesOwn.leaving rfl (AKz (pv 1)) (cZ (i:=2) lH.nd rfl (Or.inl rfl))
    (aB (aU (pm (pv 0) T.aH T.cU cX (hr.mono (by decide)) passX (aA (pm (pv 0) T.aH T.aW aS (hr.mono (by decide)) passX (aA (pv 2) aD)) aD)))
   (aE (aU (pm0 (pv 0) T.aH T.cH cK (hr.mono (by decide)) passX)))))),?_⟩
  have hzs:z.cps.size=W.length:=by rw [← bU,← hz,kL];rfl
  refine⟨_,rfl,z,rfl,CPz (fun i σ H'=>∃v,σ = [some (.ref r),some (.str z),v]∧Kp a.aG H H'∧bE a H' r tl txt (p+i)∧lit W (cur txt p)=lit (W.drop i) (cur txt (p+i))) ⟨none,rfl,Kp.refl _ _,hR,rfl⟩ ?_ ?_⟩
  ·rintro i c σ H' hc ⟨v,rfl,kp,hR',e⟩
   obtain⟨dx,h1,h2,h3,h4⟩:=id hR';obtain⟨x,hx,hxc⟩:∃x,W[i]?=some x∧x.toNat=c:=by
    have e1:(cV z)[i]?=some (V.int (c:Int)):=by
     unfold cV;rw [List.getElem?_map,show z.cps.toList[i]?=some c from by rw [Array.getElem?_toList];exact hc];rfl
    rw [hz] at e1;unfold bV at e1;rw [List.getElem?_map] at e1;obtain⟨x,h1,h2⟩:=Option.map_eq_some_iff.mp e1;exact⟨x,h1,by have:=V.int.inj h2;omega⟩
   have hcz:cV ⟨#[c]⟩=bV [x]:=by
    show [V.int (c:Int)]=[V.int (x.toNat:Int)];rw [hxc]
   have hW:W.drop i=x::W.drop (i+1):=by
    obtain⟨hlt,he⟩:=List.getElem?_eq_some_iff.mp hx;rw [List.drop_eq_getElem_cons hlt,he]
   rw [hW,kT] at e;refine⟨_,rfl,r,dx,_,rfl,h1,rfl,_,rfl,r,dx,_,rfl,h1,rfl,_,rfl,r,tl,txt,p+i,⟨#[c]⟩,[x],rfl,hcz,(by show 1≤100;decide),hR',fun H2 s2=>?_⟩;have hR2:=hR'.same s2;have kp2:Kp a.aG H H2:=kp.trans (.same s2);refine⟨r,tl,txt,p+i,_,rfl,hR2,fun ht=>?_,fun hf H3 d s3 f3=>?_⟩
   ·have hb:txt[p+i]?=some x:=by
     unfold inZ at ht;obtain⟨y,hy,hy2⟩:=bK ht
     have:y=x:=by simpa using hy2
     rw [hy,this]
    rw [if_pos hb] at e;obtain⟨dx2,g1,_⟩:=id hR2;refine⟨_,rfl,r,dx2,_,rfl,g1,rfl,r,tl,txt,p+i,x,rfl,hR2,hb,fun H3 kp3 hR3=>?_⟩;exact⟨_,rfl,kp2.trans kp3,hR3,e⟩
   ·have hb:¬ txt[p+i]?=some x:=fun hb=>by
     rw [dX hb] at hf;simp at hf
    rw [if_neg hb] at e;rw [e] at k;exact k H3 d (kp2.trans (.same s3)) f3
  ·rintro σ H' ⟨v,rfl,kp,hR',e⟩
   rw [hzs,List.drop_length] at e;rw [e] at k;rw [hzs] at hR';exact k H' kp hR'
theorem cXz (txt:Bytes) (p:Nat):isDg (ahd txt p)=nextIs isDigit (cur txt p):=by
 cases h:txt[p]? with
 | none=>rw [gG h,cZz h];rfl
 | some x =>
  rw [cS h,yS h];unfold isDg isDigit;rw [Bool.eq_iff_iff];simp only [Bool.and_eq_true,decide_eq_true_eq];omega
theorem cWz (txt:Bytes) (p:Nat):isLt (ahd txt p)=nextIs isLetter (cur txt p):=by
 cases h:txt[p]? with
 | none=>rw [gG h,cZz h];rfl
 | some x =>
  rw [cS h,yS h];unfold isLt isLetter;rw [Bool.eq_iff_iff];simp only [Bool.and_eq_true,Bool.or_eq_true,decide_eq_true_eq];omega
theorem Kp.lst {C:Addr} {H H':Hp} {l:Addr} {xs:List V} (k:Kp C H H') (h:H l=some (.lst xs)):H' l=some (.lst xs):=k.keep l _ h (by intro dx fs z;cases z)
theorem Kp.tup {C:Addr} {H H':Hp} {l:Addr} {xs:List V} (k:Kp C H H') (h:H l=some (.tup xs)):H' l=some (.tup xs):=k.keep l _ h (by intro dx fs z;cases z)
theorem Kp.ins {C:Addr} {H H':Hp} {l C' dx:Addr} {fs:List (Str×V)} (k:Kp C H H') (h:H l=some (.ins C' dx fs)) (hn:C'≠C):H' l=some (.ins C' dx fs):=k.keep l _ h (by intro dx fs z;cases z;exact hn rfl)
theorem bE.new {H:Hp} {r tl l:Addr} {txt:Bytes} {p:Nat} {o:HO} (x:bE a H r tl txt p) (h:H l=none):bE a (upd H l o) r tl txt p:=x.same (aF h)
theorem bE.put {H:Hp} {r tl l:Addr} {txt:Bytes} {p:Nat} {o:HO} (x:bE a H r tl txt p) (h1:l≠r) (h2:l≠tl):bE a (upd H l o) r tl txt p:=by
 obtain⟨dx,g1,g2,g3,g4⟩:=x;exact⟨dx,by rw [aO (Ne.symm h1)];exact g1,by rw [aO (Ne.symm h2)];exact g2,g3,g4⟩
theorem bE.nr {H:Hp} {r tl l:Addr} {txt:Bytes} {p:Nat} (x:bE a H r tl txt p) (h:H l=none):l≠r∧l≠tl:=by
 obtain⟨dx,g1,g2,g3⟩:=x;exact⟨fun z=>(by rw [z,g1] at h;cases h),fun z=>(by rw [z,g2] at h;cases h)⟩
def SI (Pq:UInt8→Bool) (n:Nat) (txt:Bytes) (p:Nat) (d:Bytes):Prop:=some_ Pq n (cur txt p)=(d++(some_ Pq (n-d.length) (cur txt (p+d.length))).1,(some_ Pq (n-d.length) (cur txt (p+d.length))).2)
theorem SI.nil {Pq:UInt8→Bool} {n:Nat} {txt:Bytes} {p:Nat}:SI Pq n txt p []:=rfl
theorem SI.step {Pq:UInt8→Bool} {n:Nat} {txt:Bytes} {p:Nat} {d:Bytes} {x:UInt8} (h:SI Pq n txt p d) (hn:d.length<n) (hx:txt[p+d.length]?=some x) (hP:Pq x=true):SI Pq n txt p (d++[x]):=by
 unfold SI at h ⊢;obtain⟨m,hm⟩:∃m,n-d.length=m+1:=⟨n-d.length-1,by omega⟩;have h2:n-(d++[x]).length=m:=by rw [List.length_append];simp only [List.length_cons,List.length_nil];omega
 have h3:p+(d++[x]).length=p+d.length+1:=by rw [List.length_append];simp only [List.length_cons,List.length_nil];omega
 rw [h2,h3,h,hm,xI hx hP,List.append_assoc];rfl
theorem SI.stop {Pq:UInt8→Bool} {n:Nat} {txt:Bytes} {p:Nat} {d:Bytes} (h:SI Pq n txt p d) (hn:d.length=n∨nextIs Pq (cur txt (p+d.length))=false):some_ Pq n (cur txt p)=(d,cur txt (p+d.length)):=by
 unfold SI at h;have e:some_ Pq (n-d.length) (cur txt (p+d.length))=([],cur txt (p+d.length)):=by
  rcases hn with hn | hn
  ·rw [hn,Nat.sub_self,vXz]
  ·exact vYz hn
 rw [h,e,List.append_nil]
theorem has1 (x y:UInt8):([y]:Bytes).contains x=(x == y):=by
 rw [List.contains_cons,List.contains_nil,Bool.or_false]
def JS (a:Adr) (H:Hp) (r tl:Addr) (txt:Bytes) (p n:Nat) (l:Addr) (Pq:UInt8→Bool) (enc:Bytes→List V) (σ0:L2.St):Nat→L2.St→Hp→Prop:=fun m σ H' =>
 ∃d:Bytes,m=n-d.length∧d.length≤n∧σ = σ0∧H' l=some (.lst (enc d))∧bE a H' r tl txt (p+d.length)∧Kp a.aG H H'∧SI Pq n txt p d
theorem JS.step {H H' H3:Hp} {r tl:Addr} {txt:Bytes} {p n:Nat} {l:Addr} {Pq:UInt8→Bool} {enc:Bytes→List V} {σ0:L2.St} {d:Bytes} {y:UInt8} {v:V} (hl0:H l=none) (nr:l≠r) (nt:l≠tl) (hd:d.length<n) (kp:Kp a.aG H H') (si:SI Pq n txt p d)
  (hy:txt[p+d.length]?=some y) (hP:Pq y=true) (kp3:Kp a.aG H' H3) (hR3:bE a H3 r tl txt (p+d.length+1)) (he:enc (d++[y])=enc d++[v]) :
  ∃m',m'<n-d.length∧JS a H r tl txt p n l Pq enc σ0 m' σ0 (upd H3 l (.lst (enc d++[v]))):=by
 have e:(d++[y]).length=d.length+1:=by rw [List.length_append];rfl
 refine⟨n-(d++[y]).length,by rw [e];omega,d++[y],rfl,by rw [e];omega,rfl,by rw [he];exact aC,?_,(kp.trans kp3).put hl0,si.step hd hy hP⟩;rw [e];exact bE.put hR3 nr nt
def sgn (m:Bool):Int:=if m=true then -1 else 1
theorem oGz:cV (Str.ofString "-")=bV [45]:=by decide +kernel
theorem pF:cV (Str.ofString " ")=bV [32]:=by decide +kernel
theorem a6z:aI ["reader","sign"] ["reader"] (defScope d7z):=by walk_at "s"
inductive aVz (a:Adr) (vs:List V) (H:Hp) (Q:VK) (E:XK):Prop
 | mk (r tl txt p x) (_:vs=[.ref r]) (_:bE a H r tl txt p) (_:txt[p]?=some x) (_:Rs a H r tl txt E (blank (cur txt (p+1))) Cur.at_ fun _ H'=>Q (.int (sgn (x == 45))) H'):aVz a vs H Q E
theorem mYz (T:Txt K mg a):Ok P w K mg base 6 a.wK ["reader"] (aVz a):=by
 have aS := @pP P w K mg base a T;have cK := @eQz P w K mg base a T;have aJ := @dQ P w K mg base a T;refine bD T.oLz a6z ?b ?l ?h;walk_at "o"
 ·obtain⟨r,tl,txt,p,x,rfl,_⟩:=h;rfl
 ·obtain⟨r,tl,txt,p,x,rfl,hR,hx,k⟩:=h
  obtain⟨dx,h1,h2,h3,h4⟩:=id hR
  refine⟨_,(aB (aP (i:=1) a6z.nd rfl (Or.inl rfl) (gU (eO (pm (pv 0) T.aH T.aW aS (hr.mono (by decide)) passX (aA bB aD))) (jUz xA aT) aT))
   (aB (aU (pm0 (pv 0) T.aH T.cH cK (hr.mono (by decide)) passX))
   (aB (aU (pm (pv 0) T.aH T.aQ aJ (hr.mono (by decide)) passX (aA bB aD)))
   (aE (aR (pv 1)))))),?_⟩
  refine⟨_,rfl,r,dx,_,rfl,h1,rfl,r,tl,txt,p,_,[45],rfl,oGz,(by show 1≤100;decide),hR,fun H1 s1=>⟨_,rfl,?_⟩⟩;have hR1:=hR.same s1;have key:∀v,v=V.int (sgn (x == 45))→(tSeq (tDrop (tM a.aG "take" (jHz a) E (tVar 0) tNil)) (tSeq (tDrop (tM a.aG "take_word" (gM a) E (tVar 0) (tCons (tC (.str " ")) tNil))) (tRet (tVar 1)))) {nx:=fun _ H'=>Q .non H',rt:=Q} [some (.ref r),some v] H1:=by
   intro v hv;obtain⟨dx1,g1,_⟩:=id hR1;refine⟨_,rfl,r,dx1,_,rfl,g1,rfl,r,tl,txt,p,x,rfl,hR1,hx,fun H2 kp2 hR2=>?_⟩;obtain⟨dx2,g2,_⟩:=id hR2;refine⟨_,rfl,r,dx2,_,rfl,g2,rfl,_,tl,txt,p+1,_,[32],rfl,pF,(by show 1≤100;decide),hR2,?_⟩;refine Rs.split (fun q hq H' d kp f=>?_) (fun c hc H' kp hR'=>⟨_,rfl,?_⟩)
   ·have k':=k
    unfold blank at k';rw [hq] at k';exact k' H' d ((Kp.same s1).trans (kp2.trans kp)) f
   ·have k':=k
    unfold blank at k';rw [hc] at k';rw [hv];exact k' H' ((Kp.same s1).trans (kp2.trans kp)) hR'
  have e:inZ [45] txt p=(x == 45):=by rw [dX hx];exact has1 x 45
  cases hb:inZ [45] txt p with
  | true=>exact iteT ⟨_,rfl,key _ (by rw [← e,hb];rfl)⟩
  | false=>exact iteF (key _ (by rw [← e,hb];rfl))
def dV (d:Bytes):List V:=d.map fun x=>V.int ((x.toNat:Int)-48)
theorem uK:aI ["reader","most","digits"] ["reader","most"] (defScope xM):=by walk_at "s"
inductive uF (a:Adr) (vs:List V) (H:Hp) (Q:VK) (E:XK):Prop
 | mk (r tl txt p) (_:∃n:Nat,vs=[.ref r,.int n]∧1≤n∧n≤100∧bE a H r tl txt p∧Rs a H r tl txt E (someDigits n (cur txt p)) (fun v=>v.2.at_) fun v H'=>∀l,H l=none→H' l=some (.lst (dV v.1))→Q (.ref l) H'):uF a vs H Q E
theorem gTz (T:Txt K mg a):Ok P w K mg base 6 a.qJ ["reader","most"] (uF a):=by
 have bN := @yE P w K mg base a T;have tV := @eVz P w K mg base a T;have cX := @eTz P w K mg base a T;have dL := @yB P w K mg base a T;refine bD T.iZz uK ?b ?l ?h;walk_at "o"
 ·obtain⟨r,tl,txt,p,n,rfl,_⟩:=h;rfl
 ·obtain⟨r,tl,txt,p,n,rfl,hn1,hn2,hR,k⟩:=h
  obtain⟨dx,h1,h2,h3,h4⟩:=id hR
  refine⟨_,(aB (aU (pm (pv 0) T.aH T.cU cX (hr.mono (by decide)) passX (aA (pc tV (hr.mono (by decide)) (by rfl) T.aCz passX (aA (pm0 (pv 0) T.aH T.bM bN (hr.mono (by decide)) passX) aD)) aD)))
   (aB (aP (i:=2) uK.nd rfl (Or.inl rfl) (dM (aA (pm0 (pv 0) T.aH T.bL dL (hr.mono (by decide)) passX) aD)))
   (aB (mU PassesOwn.leaving (PW.pt (rUz (aY mSz (bH bT (by rfl) T.mX nI (aA (pv 2) aD)) (pv 1) (nomark _)) (jPz (eO (pc tV (hr.mono (by decide)) (by rfl) T.aCz passX (aA (pm0 (pv 0) T.aH T.bM bN (hr.mono (by decide)) passX) aD))))))
    (aE (aU (kP PySem.F.plainAttrs_list PySem.F.slot_list_append PySem.F.type_list_append hJ (pv 2) (aA (pm0 (pv 0) T.aH T.bL dL (hr.mono (by decide)) passX) aD)))))
   (aE (aR (pv 2)))))),?_⟩
  rw [uJ] at k;refine⟨_,rfl,r,dx,_,rfl,h1,rfl,_,rfl,r,dx,_,rfl,h1,rfl,r,tl,txt,p,rfl,hR,_,rfl,r,tl,txt,p,_,rfl,hR,fun ht=>?_,fun hf H' d s f=>?_⟩
  ·rw [cXz] at ht
   rw [if_pos ht] at k;obtain⟨x,hx,hxd⟩:=bK ht;refine⟨_,rfl,r,dx,_,rfl,h1,rfl,r,tl,txt,p,x,rfl,hR,hx,fun H1 kp1 hR1=>⟨(by show 1≤sizeLine;decide),fun l hl=>?_⟩⟩;obtain⟨nr,nt⟩:=hR1.nr hl;have hl0:H l=none:=kp1.free l hl;refine⟨JS a H r tl txt p n l isDigit dV [some (.ref r),some (.int n),some (.ref l)],⟨n-1,[x],rfl,hn1,rfl,aC,hR1.new hl,kp1.put hl0,SI.step (d:=[]) .nil hn1 hx hxd⟩,?_⟩;rintro m σ H' ⟨d,rfl,hd,rfl,hH,hR',kp,si⟩;obtain⟨dx',g1,_⟩:=id hR';refine⟨_,rfl,l,_,rfl,.inl (SqL.of hH),_,rfl,_,_,rfl,rfl,_,rfl,?_⟩;have fin:(d.length=n∨nextIs isDigit (cur txt (p+d.length))=false)→tRet (tVar 2) {nx:=fun _ H'=>Q .non H',rt:=Q} [some (.ref r),some (.int n),some (.ref l)] H':=fun hs=>by
    rw [si.stop hs] at k;exact⟨_,rfl,k H' kp hR' l hl0 hH⟩
   have dl:(dV d).length=d.length:=List.length_map _;refine ite2 (fun hc=>?_) fun hc=>?_
   ·have hlt:d.length<n:=by
     have:((dV d).length:Int)<n:=of_decide_eq_true hc
     rw [dl] at this;omega
    refine⟨_,rfl,r,dx',_,rfl,g1,rfl,r,tl,txt,p+d.length,rfl,hR',_,rfl,_,rfl,?_⟩;rw [cXz];cases hb:nextIs isDigit (cur txt (p+d.length)) with
    | false=>exact iteF (fin (.inr hb))
    | true =>
     refine iteT ?_;obtain⟨y,hy,hyd⟩:=bK hb;refine⟨fun σ' H3=>∃m',m'<n-d.length∧JS a H r tl txt p n l isDigit dV [some (.ref r),some (.int n),some (.ref l)] m' σ' H3,fun _ _ z=>z,?_⟩;refine⟨_,rfl,.inl ⟨rfl,_,SqL.of hH⟩,_,rfl,r,dx',_,rfl,g1,rfl,r,tl,txt,p+d.length,y,rfl,hR',hy,fun H3 kp3 hR3=>⟨l,_,_,rfl,rfl,kp3.lst hH,(by rw [dl,sizeLine_eq];omega),?_⟩⟩;exact JS.step hl0 nr nt hlt kp si hy hyd kp3 hR3 (by unfold dV;rw [List.map_append];rfl)
   ·have hge:d.length=n:=by
     have:¬ ((dV d).length:Int)<n:=fun z=>hc (decide_eq_true z)
     rw [dl] at this;omega
    exact fin (.inl hge)
  ·rw [cXz] at hf
   rw [if_neg (by rw [hf];exact Bool.false_ne_true)] at k;exact k H' d (.same s) f
theorem a7z:aI ["reader","name"] ["reader"] (defScope d8z):=by walk_at "s"
inductive rR (a:Adr) (vs:List V) (H:Hp) (Q:VK) (E:XK):Prop
 | mk (r tl txt p) (_:vs=[.ref r]) (_:bE a H r tl txt p) (_:Rs a H r tl txt E (nameIn (cur txt p)) (fun v=>v.2.at_) fun v H'=>∀q,H' q=some (.tup (bV v.1))→Q (.ref q) H'):rR a vs H Q E
theorem mV (T:Txt K mg a):Ok P w K mg base 6 a.wL ["reader"] (rR a):=by
 have bN := @yE P w K mg base a T;have tV := @eVz P w K mg base a T;have qS := @bJz P w K mg base a T;have cX := @eTz P w K mg base a T;have cK := @eQz P w K mg base a T;refine bD T.oMz a7z ?b ?l ?h;walk_at "o"
 ·obtain⟨r,tl,txt,p,rfl,_⟩:=h;rfl
 ·obtain⟨r,tl,txt,p,rfl,hR,k⟩:=h
  obtain⟨dx,h1,h2,h3,h4⟩:=id hR
  refine⟨_,(aB (aU (pm (pv 0) T.aH T.cU cX (hr.mono (by decide)) passX (aA (pc qS (hr.mono (by decide)) (by rfl) T.wE passX (aA (pm0 (pv 0) T.aH T.bM bN (hr.mono (by decide)) passX) aD)) aD)))
   (aB (aP (i:=1) a7z.nd rfl (Or.inl rfl) (dM (aA (pm0 (pv 0) T.aH T.cH cK (hr.mono (by decide)) passX) aD)))
   (aB (mU PassesOwn.leaving (PW.pt (rUz (aY mSz (bH bT (by rfl) T.mX nI (aA (pv 1) aD)) (gI T.nKz) (nomark _)) (jPz (PW.pt (BMz (eO (pc qS (hr.mono (by decide)) (by rfl) T.wE passX (aA (pm0 (pv 0) T.aH T.bM bN (hr.mono (by decide)) passX) aD))) (v9z (eO (pc tV (hr.mono (by decide)) (by rfl) T.aCz passX (aA (pm0 (pv 0) T.aH T.bM bN (hr.mono (by decide)) passX) aD)))))))))
    (aE (aU (kP PySem.F.plainAttrs_list PySem.F.slot_list_append PySem.F.type_list_append hJ (pv 1) (aA (pm0 (pv 0) T.aH T.cH cK (hr.mono (by decide)) passX) aD)))))
   (aE (aR (fX qP (by rfl) T.j1z kMz (aA (pv 1) aD))))))),?_⟩
  rw [zS] at k;refine⟨_,rfl,r,dx,_,rfl,h1,rfl,_,rfl,r,dx,_,rfl,h1,rfl,r,tl,txt,p,rfl,hR,_,rfl,r,tl,txt,p,_,rfl,hR,fun ht=>?_,fun hf H' d s f=>?_⟩
  ·rw [cWz] at ht
   rw [if_pos ht] at k;obtain⟨x,hx,hxd⟩:=bK ht;have hxs:isSign x=true:=by unfold isSign;rw [hxd];rfl
   refine⟨_,rfl,r,dx,_,rfl,h1,rfl,r,tl,txt,p,x,rfl,hR,hx,fun H1 kp1 hR1=>⟨(by show 1≤sizeLine;decide),fun l hl=>?_⟩⟩;obtain⟨nr,nt⟩:=hR1.nr hl;have hl0:H l=none:=kp1.free l hl;refine⟨JS a H r tl txt p 7 l isSign bV [some (.ref r),some (.ref l)],⟨6,[x],rfl,(by show 1≤7;decide),rfl,aC,hR1.new hl,kp1.put hl0,SI.step (d:=[]) .nil (by show 0<7;decide) hx hxs⟩,?_⟩;rintro m σ H' ⟨d,rfl,hd,rfl,hH,hR',kp,si⟩;obtain⟨dx',g1,_⟩:=id hR';refine⟨_,rfl,l,_,rfl,.inl (SqL.of hH),_,_,rfl,rfl,_,rfl,?_⟩;have fin:(d.length=7∨nextIs isSign (cur txt (p+d.length))=false)→tRet (tCB (fun xs H Q=>∃p ys,xs=[.ref p]∧((SqL K H p ys∧∀l,H l=none→Q (.ref l) (upd H l (.tup ys)))∨(SqT K H p ys∧Q (.ref p) H))) (tCons (tVar 1) tNil)) {nx:=fun _ H'=>Q .non H',rt:=Q} [some (.ref r),some (.ref l)] H':=fun hs=>by
    rw [si.stop hs] at k;exact⟨_,rfl,l,_,rfl,.inl ⟨SqL.of hH,fun q hq=>k _ (kp.trans (.new hq)) (hR'.new hq) q aC⟩⟩
   refine ite2 (fun hc=>?_) fun hc=>?_
   ·have hlt:d.length<7:=by
     have:((bV d).length:Int)<7:=of_decide_eq_true hc
     rw [bU] at this;omega
    have key:(nextIs isSign (cur txt (p+d.length)))=true→∃N:L2.St→Hp→Prop,(∀σ' H3,N σ' H3→∃m',m'<7-d.length∧JS a H r tl txt p 7 l isSign bV [some (.ref r),some (.ref l)] m' σ' H3)∧
      (tDrop (tBM K "list" rAppend (tVar 1) (tCons (tM a.aG "take" (jHz a) E (tVar 0) tNil) tNil))) {nx:=N,rt:=Q,ct:=N,bk:=tRet (tCB (fun xs H Q=>∃p ys,xs=[.ref p]∧((SqL K H p ys∧∀l,H l=none→Q (.ref l) (upd H l (.tup ys)))∨(SqT K H p ys∧Q (.ref p) H))) (tCons (tVar 1) tNil)) {nx:=fun _ H'=>Q .non H',rt:=Q}} [some (.ref r),some (.ref l)] H':=fun hb=>by
     obtain⟨y,hy,hyd⟩:=bK hb;refine⟨fun σ' H3=>∃m',m'<7-d.length∧JS a H r tl txt p 7 l isSign bV [some (.ref r),some (.ref l)] m' σ' H3,fun _ _ z=>z,?_⟩;refine⟨_,rfl,.inl ⟨rfl,_,SqL.of hH⟩,_,rfl,r,dx',_,rfl,g1,rfl,r,tl,txt,p+d.length,y,rfl,hR',hy,fun H3 kp3 hR3=>⟨l,_,_,rfl,rfl,kp3.lst hH,(by rw [bU,sizeLine_eq];omega),?_⟩⟩;exact JS.step hl0 nr nt hlt kp si hy hyd kp3 hR3 (by unfold bV;rw [List.map_append];rfl)
    refine⟨_,rfl,r,dx',_,rfl,g1,rfl,r,tl,txt,p+d.length,rfl,hR',_,rfl,_,rfl,?_⟩;rw [cWz];have hsn:nextIs isSign (cur txt (p+d.length))=(nextIs isLetter (cur txt (p+d.length))||nextIs isDigit (cur txt (p+d.length))):=by
     cases hz:txt[p+d.length]? with
     | none=>rw [gG hz,gG hz,gG hz];rfl
     | some z=>rw [cS hz,cS hz,cS hz];rfl
    cases hb:nextIs isLetter (cur txt (p+d.length)) with
    | true =>
     exact iteT (iteT (key (by rw [hsn,hb];rfl)))
    | false =>
     refine iteF ⟨_,rfl,r,dx',_,rfl,g1,rfl,r,tl,txt,p+d.length,rfl,hR',_,rfl,_,rfl,?_⟩;rw [cXz];cases hb2:nextIs isDigit (cur txt (p+d.length)) with
     | true=>exact iteT (key (by rw [hsn,hb2,Bool.or_true]))
     | false=>exact iteF (fin (.inr (by rw [hsn,hb,hb2];rfl)))
   ·have hge:d.length=7:=by
     have:¬ ((bV d).length:Int)<7:=fun z=>hc (decide_eq_true z)
     rw [bU] at this;omega
    exact fin (.inl hge)
  ·rw [cWz] at hf
   rw [if_neg (by rw [hf];exact Bool.false_ne_true)] at k;exact k H' d (.same s) f
theorem z_19:cV (Str.ofString "123456789")=bV [49,50,51,52,53,54,55,56,57]:=by decide +kernel
theorem z_05:cV (Str.ofString "012345")=bV [48,49,50,51,52,53]:=by decide +kernel
theorem AEz {q:UInt8→Bool} (h:∀n:Fin 256,q (UInt8.ofNat n.val)=true) (x:UInt8):q x=true:=by
 have e:UInt8.ofNat x.toNat=x:=UInt8.ofNat_toNat
 have:=h ⟨x.toNat,x.toNat_lt⟩
 rwa [e] at this
theorem has19 (x:UInt8):([49,50,51,52,53,54,55,56,57]:Bytes).contains x=is19 x:=eq_of_beq (AEz (q:=fun x=>([49,50,51,52,53,54,55,56,57]:Bytes).contains x == is19 x) (by decide +kernel) x)
theorem has05 (x:UInt8):([48,49,50,51,52,53]:Bytes).contains x=is05 x:=eq_of_beq (AEz (q:=fun x=>([48,49,50,51,52,53]:Bytes).contains x == is05 x) (by decide +kernel) x)
theorem nNz {Z txt:Bytes} {p:Nat} {q:UInt8→Bool} (h:∀x,Z.contains x=q x):inZ Z txt p=nextIs q (cur txt p):=by
 cases hz:txt[p]? with
 | none=>rw [tT hz,gG hz]
 | some x=>rw [dX hz,cS hz,h]
theorem pK:aI ["reader","count"] ["reader"] (defScope bCz):=by walk_at "s"
inductive xH (a:Adr) (vs:List V) (H:Hp) (Q:VK) (E:XK):Prop
 | mk (r tl txt p) (_:vs=[.ref r]) (_:bE a H r tl txt p) (_:(nextIs is19 (cur txt p)=false→∀H' d,Same H H'→hJz H' d 1 p→E (.ref a.bG) (some d) H')) (_:(∀x,txt[p]?=some x→is19 x=true→¬ (x=49∧nextIs is05 (cur txt (p+1))=true)→∀H',Kp a.aG H H'→bE a H' r tl txt (p+1)→Q (.int ((x.toNat-48:Nat):Int)) H')) (_:(∀y,txt[p]?=some 49→txt[p+1]?=some y→is05 y=true→∀H',Kp a.aG H H'→bE a H' r tl txt (p+2)→Q (.int ((10+(y.toNat-48):Nat):Int)) H')):xH a vs H Q E
theorem xMz {x:UInt8} (h:is19 x=true):49≤x.toNat∧x.toNat≤57:=by
 unfold is19 at h
 simpa using h
theorem CHz {x:UInt8} (h:is05 x=true):48≤x.toNat∧x.toNat≤53:=by
 unfold is05 at h
 simpa using h
theorem j0z (T:Txt K mg a):Ok P w K mg base 5 a.sZ ["reader"] (xH a):=by
 have aS := @pP P w K mg base a T;have cX := @eTz P w K mg base a T;have dL := @yB P w K mg base a T;refine bD T.lEz pK ?b ?l ?h;walk_at "o"
 ·obtain⟨r,tl,txt,p,rfl,_⟩:=h;rfl
 ·obtain⟨r,tl,txt,p,rfl,hR,k1,k2,k3⟩:=h
  obtain⟨dx,h1,h2,h3,h4⟩:=id hR
  refine⟨_,(aB (aU (pm (pv 0) T.aH T.cU cX (hr.mono (by decide)) passX (aA (pm (pv 0) T.aH T.aW aS (hr.mono (by decide)) passX (aA bB aD)) aD)))
   (aB (aP (i:=1) pK.nd rfl (Or.inl rfl) (pm0 (pv 0) T.aH T.bL dL (hr.mono (by decide)) passX))
   (aB (dE (PW.pt (rUz (aY gW (pv 1) aT (nomark _)) (jPz (eO (pm (pv 0) T.aH T.aW aS (hr.mono (by decide)) passX (aA bB aD)))))) (aE (aP (i:=1) pK.nd rfl (Or.inl rfl) (aZ gN aT (pm0 (pv 0) T.aH T.bL dL (hr.mono (by decide)) passX)))) bA)
   (aE (aR (pv 1)))))),?_⟩
  refine⟨_,rfl,r,dx,_,rfl,h1,rfl,_,rfl,r,dx,_,rfl,h1,rfl,_,tl,txt,p,_,_,rfl,z_19,(by show 9≤100;decide),hR,fun H1 s1=>?_⟩;have hR1:=hR.same s1;obtain⟨dx1,g1,_⟩:=id hR1;rw [nNz has19];refine⟨r,tl,txt,p,_,rfl,hR1,fun ht=>?_,fun hf H' d s f=>k1 hf H' d (s1.trans s) f⟩;obtain⟨x,hx,hx19⟩:=bK ht;obtain⟨b1,b2⟩:=xMz hx19;refine⟨_,rfl,r,dx1,_,rfl,g1,rfl,r,tl,txt,p,x,rfl,hR1,hx,fun H2 kp2 hR2=>?_⟩;obtain⟨dx2,g2,_⟩:=id hR2;have kp02:Kp a.aG H H2:=(Kp.same s1).trans kp2;refine⟨_,rfl,rfl,_,rfl,?_⟩;have fin:¬ (x=49∧nextIs is05 (cur txt (p+1))=true)→∀H3,Same H2 H3→tRet (tVar 1) {nx:=fun _ H'=>Q .non H',rt:=Q} [some (.ref r),some (.int ((x.toNat:Int)-48))] H3:=fun hno H3 s3=>by
   refine⟨_,rfl,?_⟩
   have:=k2 x hx hx19 hno H3 (kp02.trans (.same s3)) (hR2.same s3)
   rw [show ((x.toNat-48:Nat):Int)=(x.toNat:Int)-48 by omega] at this;exact this
  refine ite2 (fun hc=>?_) fun hc=>?_
  ·have hc':V.int ((x.toNat:Int)-48)=V.int 1:=of_decide_eq_true hc
   have hx49:x=49:=by
    have:=V.int.inj hc'
    exact UInt8.toNat_inj.mp (by show x.toNat=49;omega)
   refine⟨_,rfl,r,dx2,_,rfl,g2,rfl,_,tl,txt,p+1,_,_,rfl,z_05,(by show 6≤100;decide),hR2,fun H3 s3=>⟨_,rfl,?_⟩⟩;rw [nNz has05];cases hb:nextIs is05 (cur txt (p+1)) with
   | false=>exact iteF (fin (fun z=>by rw [hb] at z;exact absurd z.2 Bool.false_ne_true) H3 s3)
   | true =>
    refine iteT ?_;obtain⟨y,hy,hy5⟩:=bK hb;obtain⟨c1,c2⟩:=CHz hy5;have hR3:=hR2.same s3;obtain⟨dx3,g3,_⟩:=id hR3;refine⟨_,rfl,r,dx3,_,rfl,g3,rfl,r,tl,txt,p+1,y,rfl,hR3,hy,fun H4 kp4 hR4=>⟨_,_,rfl,rfl,_,rfl,?_⟩⟩
    have:=k3 y (by rw [← hx49];exact hx) hy hy5 H4 (kp02.trans ((Kp.same s3).trans kp4)) hR4
    rw [show ((10+(y.toNat-48):Nat):Int)=10+((y.toNat:Int)-48) by omega] at this;exact this
  ·refine fin (fun z=>hc ?_) H2 (Same.refl _)
   rw [z.1];rfl
inductive pD (a:Adr) (H:Hp) (x:Addr) (t:Term):Prop
 | mk (dx n) (_:H x=some (.ins a.iI dx (wG (.int (sgn t.minus)) (.int (t.count:Int)) (.ref n) (.int (t.at_:Int))))) (_:H n=some (.tup (bV t.name))):pD a H x t
theorem pD.same {H H':Hp} {x:Addr} {t:Term} (h:pD a H x t) (s:Same H H'):pD a H' x t:=let ⟨dx,n,h1,h2⟩:=h;⟨dx,n,s _ _ h1,s _ _ h2⟩
theorem pD.kp {H H':Hp} {x:Addr} {t:Term} (h:pD a H x t) (s:Kp a.aG H H') (hn:a.iI≠a.aG):pD a H' x t:=let ⟨dx,n,h1,h2⟩:=h;⟨dx,n,s.ins h1 hn,s.tup h2⟩
theorem mP:aI ["reader","sign","count","place"] ["reader","sign"] (defScope d6z):=by walk_at "s"
inductive aUz (a:Adr) (vs:List V) (H:Hp) (Q:VK) (E:XK):Prop
 | mk (r tl txt p m) (_:vs=[.ref r,.int (sgn m)]) (_:bE a H r tl txt p) (_:Rs a H r tl txt E (termIn m (cur txt p)) (fun v=>v.2.at_) fun v H'=>∀x,pD a H' x v.1→Q (.ref x) H'):aUz a vs H Q E
theorem mXz (T:Txt K mg a):Ok P w K mg base 8 a.wJ ["reader","sign"] (aUz a):=by
 have bN := @yE P w K mg base a T;have qS := @bJz P w K mg base a T;have oEz := @j0z P w K mg base a T;have gL := @mV P w K mg base a T;have aJ := @dQ P w K mg base a T;have G_Term := @B0z P w K mg base a T;refine bD T.oKz mP ?b ?l ?h;walk_at "o"
 ·obtain⟨r,tl,txt,p,m,rfl,_⟩:=h;rfl
 ·obtain⟨r,tl,txt,p,m,rfl,hR,k⟩:=h
  obtain⟨dx,h1,h2,h3,h4⟩:=id hR
  refine⟨_,(aB (aP (i:=2) mP.nd rfl (Or.inl rfl) aT)
   (aB (dE (rWz (eO (pc qS (hr.mono (by decide)) (by rfl) T.wE passX (aA (pm0 (pv 0) T.aH T.bM bN (hr.mono (by decide)) passX) aD)))) (aB (aP (i:=2) mP.nd rfl (Or.inl rfl) (pc oEz (hr.mono (by decide)) (by rfl) T.nQz passX (aA (pv 0) aD)))
   (aE (aU (pm (pv 0) T.aH T.aQ aJ (hr.mono (by decide)) passX (aA bB aD))))) bA)
   (aB (aP (i:=3) mP.nd rfl (Or.inl rfl) (aM (pv 0) rfl))
   (aE (aR (pn T.B6z G_Term (hr.mono (by decide)) (by rfl) T.g_Term passN (aA (pv 1) (aA (pv 2) (aA (pc gL (hr.mono (by decide)) (by rfl) T.qC passX (aA (pv 0) aD)) (aA (pv 3) aD)))))))))),?_⟩
  rw [lIz] at k;refine⟨_,rfl,r,dx,_,rfl,h1,rfl,r,tl,txt,p,rfl,hR,_,rfl,_,rfl,?_⟩;rw [cWz];have tail:∀(cnt q:Nat) (H1:Hp),Kp a.aG H H1→bE a H1 r tl txt q→(Rs a H r tl txt E (match nameIn (cur txt q) with | .error q => .error q | .ok (n,e) => .ok ((⟨m,cnt,n,q⟩:Term),e)) (fun v=>v.2.at_) fun v H'=>∀x,pD a H' x v.1→Q (.ref x) H')→
    (tSeq (tAsg (tFld K (tVar 0) "place") (gName 3)) (tRet (tMk a.iI (o3z a) EN (tCons (tVar 1) (tCons (tVar 2) (tCons (tC1 (rR a) E (tCons (tVar 0) tNil)) (tCons (tVar 3) tNil))))))) {nx:=fun _ H'=>Q .non H',rt:=Q} [some (.ref r),some (.int (sgn m)),some (.int (cnt:Int)),none] H1:=by
   intro cnt q H1 kp1 hR1 k';obtain⟨dx1,g1,_⟩:=id hR1;refine⟨_,rfl,r,_,dx1,_,_,rfl,g1,T.aH,T.cD,nE _ _,_,rfl,_,rfl,_,rfl,_,tl,txt,q,rfl,hR1,?_⟩;refine Rs.split (fun e he H' d kp f=>?_) (fun v hv H' kp hR' qn hqn=>⟨_,rfl,fun x dx' nx ndx hne=>?_⟩)
   ·rw [he] at k'
    exact k' H' d (kp1.trans kp) f
   ·obtain⟨n,c⟩:=v
    rw [hv] at k';refine⟨x,dx',_,_,_,_,rfl,aC,rfl,?_⟩;rw [kJ];have s':Same H' (mkH H' x dx' a.iI (wG (.int (sgn m)) (.int (cnt:Int)) (.ref qn) (.int (q:Int)))):=dS nx ndx;exact k' _ (kp1.trans (kp.trans (.same s'))) (hR'.same s') x ⟨dx',qn,iH,s' _ _ hqn⟩
  cases hb:nextIs isLetter (cur txt p) with
  | true =>
   refine iteF ?_;have h19:¬ nextIs is19 (cur txt p)=true:=fun z=>by
    obtain⟨x,hx,hx9⟩:=bK z;rw [cS hx] at hb;obtain⟨b1,b2⟩:=xMz hx9;unfold isLetter at hb;simp only [Bool.or_eq_true,Bool.and_eq_true,decide_eq_true_eq] at hb;omega
   rw [if_neg h19] at k;exact tail 1 p H (Kp.refl _ _) hR k
  | false =>
   refine iteT ⟨_,rfl,r,tl,txt,p,rfl,hR,fun hf H' d s f=>?_,fun x hx hx9 hno H1 kp1 hR1=>?_,fun y hx hy hy5 H1 kp1 hR1=>?_⟩
   ·rw [if_neg (by rw [hf];exact Bool.false_ne_true)] at k
    have e:nameIn (cur txt p) = .error p:=by rw [zS,if_neg (by rw [hb];exact Bool.false_ne_true)]
    dsimp only at k;rw [e] at k;exact k H' d (.same s) f
   ·rw [if_pos (by rw [cS hx];exact hx9),nZz hx hx9 hno] at k
    obtain⟨dx1,g1,_⟩:=id hR1;refine⟨_,rfl,r,dx1,_,rfl,g1,rfl,_,tl,txt,p+1,_,[32],rfl,pF,(by show 1≤100;decide),hR1,?_⟩;unfold blank at k;refine Rs.split (fun e he H' d kp f=>?_) (fun c hc H' kp hR'=>?_)
    ·rw [he] at k
     exact k H' d (kp1.trans kp) f
    ·rw [hc] at k
     have hcc:=dA hc;subst hcc;exact tail _ _ H' (kp1.trans kp) hR' k
   ·rw [if_pos (by rw [cS hx];rfl),nYz hx hy hy5] at k
    obtain⟨dx1,g1,_⟩:=id hR1;refine⟨_,rfl,r,dx1,_,rfl,g1,rfl,_,tl,txt,p+2,_,[32],rfl,pF,(by show 1≤100;decide),hR1,?_⟩;unfold blank at k;refine Rs.split (fun e he H' d kp f=>?_) (fun c hc H' kp hR'=>?_)
    ·rw [he] at k
     exact k H' d (kp1.trans kp) f
    ·rw [hc] at k
     have hcc:=dA hc;subst hcc;exact tail _ _ H' (kp1.trans kp) hR' k
theorem z_lf:cV (Str.ofString "\n")=bV [10]:=by decide +kernel
theorem z_dot:cV (Str.ofString ".")=bV [46]:=by decide +kernel
theorem A0z {z:Str} {S:Bytes} (h:cV z=bV S):decide (V.str z=V.str (Str.ofString ""))=decide (S=[]):=by
 by_cases hs:S=[]
 ·rw [decide_eq_true hs]
  subst hs;refine decide_eq_true (congrArg V.str ?_);have hl:z.cps.size=0:=by
   have:=kL z
   rw [h] at this;exact this.symm
  obtain⟨cps⟩:=z
  have:cps = #[]:=Array.eq_empty_of_size_eq_zero hl
  subst this;rfl
 ·rw [decide_eq_false hs]
  refine decide_eq_false fun e=>hs ?_;have e1:=V.str.inj e;subst e1;have e2:(bV S).length=0:=by rw [← h];rfl
  rw [bU] at e2;exact List.length_eq_zero_iff.mp e2
theorem jMz:aI ["reader","signs"] ["reader","signs"] (defScope a9z):=by walk_at "s"
inductive fG (a:Adr) (vs:List V) (H:Hp) (Q:VK) (E:XK):Prop
 | mk (r tl txt p z S may) (_:vs=[.ref r,.str z]) (_:cV z=bV S) (_:S.length≤100) (_:(∀x,S.contains x=may.contains x)) (_:(S=[]↔may=[])) (_:bE a H r tl txt p) (_:Rs a H r tl txt E (behind may (cur txt p)) (fun v=>v.2.at_-1) fun _ H'=>Q .non H'):fG a vs H Q E
theorem yA (T:Txt K mg a):Ok P w K mg base 6 a.sW ["reader","signs"] (fG a):=by
 have aS := @pP P w K mg base a T;have cX := @eTz P w K mg base a T;have aJ := @dQ P w K mg base a T;refine bD T.lBz jMz ?b ?l ?h;walk_at "o"
 ·obtain⟨r,tl,txt,p,z,S,may,rfl,_⟩:=h;rfl
 ·obtain⟨r,tl,txt,p,z,S,may,rfl,hz,hl,hS,hS0,hR,k⟩:=h
  obtain⟨dx,h1,h2,h3,h4⟩:=id hR
  refine⟨_,(aB (dE (eO (pm (pv 0) T.aH T.aW aS (hr.mono (by decide)) passX (aA bB aD))) (aE BOz) bA)
   (aB (aU (pm (pv 0) T.aH T.cU cX (hr.mono (by decide)) passX (aA (pO BWz (pv 1) bB (nomark _)) aD)))
   (aB (aU (pm (pv 0) T.aH T.aQ aJ (hr.mono (by decide)) passX (aA bB aD)))
   (aE (aU (pm (pv 0) T.aH T.cU cX (hr.mono (by decide)) passX (aA (pm (pv 0) T.aH T.aW aS (hr.mono (by decide)) passX (aA (pv 1) aD)) aD))))))),?_⟩
  rw [iTz] at k;refine⟨_,rfl,r,dx,_,rfl,h1,rfl,_,tl,txt,p,_,[10],rfl,z_lf,(by show 1≤100;decide),hR,fun H1 s1=>⟨_,rfl,?_⟩⟩;have hR1:=hR.same s1;obtain⟨dx1,g1,_⟩:=id hR1
  by_cases hlf:txt[p]?=some LF
  ·rw [dX hlf,show ([10]:Bytes).contains LF=true from rfl]
   refine iteT ?_;rw [if_pos hlf] at k;exact k H1 (.same s1) hR1
  ·have hb:inZ [10] txt p=false:=by
    cases hy:txt[p]? with
    | none=>exact tT hy
    | some y =>
     rw [dX hy,has1];refine beq_eq_false_iff_ne.mpr fun e=>hlf ?_;rw [hy,e];rfl
   rw [hb];refine iteF ?_;rw [if_neg hlf] at k;refine⟨_,rfl,r,dx1,_,rfl,g1,rfl,_,rfl,rfl,r,tl,txt,p,_,rfl,hR1,fun ht=>?_,fun hf H' d s f=>?_⟩
   ·rw [A0z hz] at ht
    have hSn:S≠[]:=by simpa using ht
    have hmn:may≠[]:=fun e=>hSn (hS0.mpr e);refine⟨_,rfl,r,dx1,_,rfl,g1,rfl,_,tl,txt,p,_,[32],rfl,pF,(by show 1≤100;decide),hR1,?_⟩;rw [show lit [32] (cur txt p)=blank (cur txt p) from rfl,gA]
    by_cases h32:txt[p]?=some 32
    ·rw [if_pos h32]
     rw [if_pos ⟨h32,hmn⟩] at k;intro H2 kp2 hR2;have hR2':bE a H2 r tl txt (p+1):=hR2;obtain⟨dx2,g2,_⟩:=id hR2';refine⟨_,rfl,r,dx2,_,rfl,g2,rfl,_,rfl,r,dx2,_,rfl,g2,rfl,_,rfl,_,tl,txt,p+1,_,S,rfl,hz,hl,hR2',fun H3 s3=>?_⟩;have kp3:Kp a.aG H H3:=(Kp.same s1).trans (kp2.trans (.same s3));refine⟨r,tl,txt,p+1,_,rfl,hR2'.same s3,fun ht=>?_,fun hf H' d s f=>?_⟩
     ·unfold inZ at ht
      obtain⟨y,hy,hy2⟩:=bK ht;rw [hy] at k;rw [hS] at hy2;dsimp only at k;rw [if_pos hy2] at k;exact k H3 kp3 (hR2'.same s3)
     ·have kE:Rs a H r tl txt E (.error (p+1):Except Nat (Option UInt8×Cur)) (fun v=>v.2.at_-1) fun _ H'=>Q .non H':=by
       cases hy:txt[p+1]? with
       | none=>rw [hy] at k;exact k
       | some y =>
        rw [hy] at k;rw [dX hy,hS] at hf;dsimp only at k;rw [if_neg (by rw [hf];exact Bool.false_ne_true)] at k;exact k
      exact kE H' d (kp3.trans (.same s)) f
    ·rw [if_neg h32]
     rw [if_neg (fun z=>h32 z.1)] at k;intro H' d kp f;exact k H' d ((Kp.same s1).trans kp) f
   ·rw [A0z hz] at hf
    have hSn:S=[]:=by simpa using hf
    rw [if_neg (fun z=>z.2 (hS0.mp hSn))] at k;exact k H' d (.same (s1.trans s)) f
theorem z_t:cV (Str.ofString "t")=bV [116]:=by decide +kernel
theorem z_1:cV (Str.ofString "1")=bV [49]:=by decide +kernel
theorem z_2:cV (Str.ofString "2")=bV [50]:=by decide +kernel
theorem z_fs:cV (Str.ofString "fs")=bV [102,115]:=by decide +kernel
theorem z_turn:cV (Str.ofString "turn ")=bV [116,117,114,110,32]:=by decide +kernel
theorem z_90:cV (Str.ofString (toString (90:Int)))=bV [57,48]:=by decide +kernel
theorem z_180:cV (Str.ofString (toString (180:Int)))=bV [49,56,48]:=by decide +kernel
theorem z_270:cV (Str.ofString (toString (270:Int)))=bV [50,55,48]:=by decide +kernel
theorem mO:aI ["reader","turn"] ["reader"] (defScope d5z):=by walk_at "s"
inductive aTz (a:Adr) (vs:List V) (H:Hp) (Q:VK) (E:XK):Prop
 | mk (r tl txt p k) (_:vs=[.ref r]) (_:bE a H r tl txt p) (_:txt[p]?=some (Option.getD k LF)) (_:Rs a H r tl txt E (turnPart k (cur txt (p+1))) (fun v=>v.2.2.at_-1) fun v H'=>Q (.int ((90*v.1:Nat):Int)) H'):aTz a vs H Q E
theorem mWz (T:Txt K mg a):Ok P w K mg base 7 a.wI ["reader"] (aTz a):=by
 have aS := @pP P w K mg base a T;have nJ := @yA P w K mg base a T;have aJ := @dQ P w K mg base a T;refine bD T.oJz mO ?b ?l ?h;walk_at "o"
 ·obtain⟨r,tl,txt,p,k,rfl,_⟩:=h;rfl
 ·obtain⟨r,tl,txt,p,kk,rfl,hR,hk,k⟩:=h
  obtain⟨dx,h1,h2,h3,h4⟩:=id hR
  refine⟨_,(aB (dE (rWz (eO (pm (pv 0) T.aH T.aW aS (hr.mono (by decide)) passX (aA bB aD)))) (aE (aR aT)) bA)
   (aB (aU (pm (pv 0) T.aH T.aQ aJ (hr.mono (by decide)) passX (aA bB aD)))
   (aB (aP (i:=1) mO.nd rfl (Or.inl rfl) aT)
   (aB (dE (eO (pm (pv 0) T.aH T.aW aS (hr.mono (by decide)) passX (aA bB aD))) (aE (aP (i:=1) mO.nd rfl (Or.inl rfl) aT)) bA)
   (aB (dE (eO (pm (pv 0) T.aH T.aW aS (hr.mono (by decide)) passX (aA bB aD))) (aE (aP (i:=1) mO.nd rfl (Or.inl rfl) aT)) bA)
   (aB (aU (pm (pv 0) T.aH T.aQ aJ (hr.mono (by decide)) passX (aA (fX nG (by rfl) T.sFz sZz (aA (pv 1) aD)) aD)))
   (aB (aU (pc nJ (hr.mono (by decide)) (by rfl) T.sM passX (aA (pv 0) (aA bB aD))))
   (aE (aR (pv 1)))))))))),?_⟩
  refine⟨_,rfl,r,dx,_,rfl,h1,rfl,_,tl,txt,p,_,[116],rfl,z_t,(by show 1≤100;decide),hR,fun H1 s1=>⟨_,rfl,?_⟩⟩;have hR1:=hR.same s1;obtain⟨dx1,g1,_⟩:=id hR1;rw [dX hk,has1];unfold turnPart at k
  by_cases ht:kk=some 116
  ·rw [if_pos ht,w_urn] at k
   subst ht;rw [show ((Option.getD (some 116) LF:UInt8) == 116)=true from rfl];refine iteF ?_;refine⟨_,rfl,r,dx1,_,rfl,g1,rfl,_,tl,txt,p,_,_,rfl,z_turn,(by show 5≤100;decide),hR1,?_⟩;rw [kT,if_pos (show txt[p]?=some 116 from hk)];refine Rs.split (fun q hq H' d kp f=>?_) (fun c hc H2 kp2 hR2=>?_)
   ·rw [hq] at k
    exact k H' d ((Kp.same s1).trans kp) f
   ·rw [hc] at k
    have hcc:=dA hc;subst hcc;generalize hq:p+1+List.length ([117,114,110,32]:Bytes)=q at *;dsimp only at k;have hR2':bE a H2 r tl txt q:=hR2;have kp02:Kp a.aG H H2:=(Kp.same s1).trans kp2;have tail:∀(n:Nat) (z:Str) (W:Bytes) (H3:Hp),Kp a.aG H2 H3→bE a H3 r tl txt q→cV z=bV W→W.length≤100→z=Str.ofString (toString ((90*n:Nat):Int))→(((90*n:Nat):Int).natAbs.log2<1920)→turnIn (cur txt q)=(lit W (cur txt q)).map (fun d=>(n,d))→
      (tSeq (tDrop (tM a.aG "take_word" (gM a) E (tVar 0) (tCons (tCB (fun xs H Q=>∃i,xs=[.int i]∧i.natAbs.log2<1920∧Q (.str (toString i)) H) (tCons (tVar 1) tNil)) tNil))) (tSeq (tDrop (tC1 (fG a) E (tCons (tVar 0) (tCons (tC (.str "fs")) tNil)))) (tRet (tVar 1)))) {nx:=fun _ H'=>Q .non H',rt:=Q} [some (.ref r),some (.int ((90*n:Nat):Int))] H3:=by
     intro n z W H3 kp3 hR3 hz hW hzz hlg htn;obtain⟨dx3,g3,_⟩:=id hR3;refine⟨_,rfl,r,dx3,_,rfl,g3,rfl,_,rfl,_,rfl,hlg,_,tl,txt,q,z,W,(by rw [hzz]),hz,hW,hR3,?_⟩;rw [htn] at k;refine Rs.split (fun e he H' d kp f=>?_) (fun c hc H4 kp4 hR4=>?_)
     ·rw [he] at k
      exact k H' d (kp02.trans (kp3.trans kp)) f
     ·rw [hc] at k
      have hcc:=dA hc;subst hcc;have hR4:bE a H4 r tl txt (q+W.length):=hR4;refine⟨_,rfl,r,tl,txt,q+W.length,_,[102,115],[102,115],rfl,z_fs,(by show 2≤100;decide),fun _=>rfl,Iff.rfl,hR4,?_⟩;refine Rs.split (fun e he H' d kp f=>?_) (fun v hv H5 kp5 hR5=>⟨_,rfl,?_⟩)
      ·have k2:=k
       simp only [Except.map] at k2;rw [he] at k2;exact k2 H' d (kp02.trans (kp3.trans (kp4.trans kp))) f
      ·obtain⟨k2,c3⟩:=v
       have k3:=k;simp only [Except.map] at k3;rw [hv] at k3;exact k3 H5 (kp02.trans (kp3.trans (kp4.trans kp5))) hR5
    obtain⟨dx2,g2,_⟩:=id hR2';refine⟨_,rfl,r,dx2,_,rfl,g2,rfl,_,tl,txt,q,_,[49],rfl,z_1,(by show 1≤100;decide),hR2',fun H3 s3=>⟨_,rfl,?_⟩⟩;have hR3:=hR2'.same s3;obtain⟨dx3,g3,_⟩:=id hR3
    have step:∀(v:V) (b:Bool),inZ [50] txt q=b→(∀H4,Kp a.aG H2 H4→bE a H4 r tl txt q→
      (tSeq (tDrop (tM a.aG "take_word" (gM a) E (tVar 0) (tCons (tCB (fun xs H Q=>∃i,xs=[.int i]∧i.natAbs.log2<1920∧Q (.str (toString i)) H) (tCons (tVar 1) tNil)) tNil))) (tSeq (tDrop (tC1 (fG a) E (tCons (tVar 0) (tCons (tC (.str "fs")) tNil)))) (tRet (tVar 1)))) {nx:=fun _ H'=>Q .non H',rt:=Q} [some (.ref r),some (if b=true then V.int 270 else v)] H4)→
      (tSeq (tIfS (tB (tM a.aG "sees" (o2z a) E (tVar 0) (tCons (tC (.str "2")) tNil))) (tAsg (tC (.int 270)) (gName 1)) tNext) (tSeq (tDrop (tM a.aG "take_word" (gM a) E (tVar 0) (tCons (tCB (fun xs H Q=>∃i,xs=[.int i]∧i.natAbs.log2<1920∧Q (.str (toString i)) H) (tCons (tVar 1) tNil)) tNil))) (tSeq (tDrop (tC1 (fG a) E (tCons (tVar 0) (tCons (tC (.str "fs")) tNil)))) (tRet (tVar 1))))) {nx:=fun _ H'=>Q .non H',rt:=Q} [some (.ref r),some v] H3:=by
     intro v b hb kk;refine⟨_,rfl,r,dx3,_,rfl,g3,rfl,_,tl,txt,q,_,[50],rfl,z_2,(by show 1≤100;decide),hR3,fun H4 s4=>⟨_,rfl,?_⟩⟩;rw [hb]
     have:=kk H4 ((Kp.same s3).trans (.same s4)) (hR3.same s4)
     cases b with
     | true=>exact iteT this
     | false=>exact iteF this
    by_cases h49:txt[q]?=some 49
    ·rw [dX h49,show ([49]:Bytes).contains 49=true from rfl]
     refine iteT (step (.int 180) false (by rw [dX h49];rfl) fun H4 kp4 hR4=>?_);exact tail 2 _ _ H4 kp4 hR4 z_180 (by show 3≤100;decide) rfl (by decide +kernel) (by unfold turnIn;rw [eV,h49,w_180];rfl)
    ·have b49:inZ [49] txt q=false:=by
      cases hy:txt[q]? with
      | none=>exact tT hy
      | some y=>rw [dX hy,has1];exact beq_eq_false_iff_ne.mpr fun e=>h49 (by rw [hy,e])
     rw [b49];refine iteF ?_
     by_cases h50:txt[q]?=some 50
     ·refine step (.int 90) true (by rw [dX h50];rfl) fun H4 kp4 hR4=>?_
      exact tail 3 _ _ H4 kp4 hR4 z_270 (by show 3≤100;decide) rfl (by decide +kernel) (by unfold turnIn;rw [eV,h50,w_270];rfl)
     ·have b50:inZ [50] txt q=false:=by
       cases hy:txt[q]? with
       | none=>exact tT hy
       | some y=>rw [dX hy,has1];exact beq_eq_false_iff_ne.mpr fun e=>h50 (by rw [hy,e])
      refine step (.int 90) false b50 fun H4 kp4 hR4=>?_;refine tail 1 _ _ H4 kp4 hR4 z_90 (by show 2≤100;decide) rfl (by decide +kernel) ?_;unfold turnIn;rw [eV,w_90]
      by_cases h57:txt[q]?=some 57
      ·rw [if_pos h57]
      ·rw [if_neg h57,if_neg h49,if_neg h50,kT,if_neg h57]
       rfl
  ·rw [if_neg ht] at k
   have hne:((Option.getD kk LF:UInt8) == 116)=false:=by
    refine beq_eq_false_iff_ne.mpr fun e=>?_;cases kk with
    | none=>cases e
    | some x=>exact ht (by rw [show x=116 from e])
   rw [hne];refine iteT ?_;exact k H1 (.same s1) hR1
theorem lE {t u:TS} {D:Ends} {σ : L2.St} {H:Hp} (M:L2.St→Hp→Prop) (h:∀N:L2.St→Hp→Prop,(∀σ' H',M σ' H'→N σ' H')→t {D with nx:=N} σ H) (hM:∀σ' H',M σ' H'→u D σ' H'):tSeq t u D σ H:=h _ hM
theorem BFz {v:V} {i:Nat} {u:TS} {D:Ends} {σ : L2.St} {H:Hp} (h:u D (σ.set i (some v)) H):tSeq (tAsg (tC v) (gName i)) u D σ H:=h
def fI (n:Int) (x:Int):Int:=n*10+x
theorem sRz:∀(d:Bytes) (m:Nat),(∀x∈d,isDigit x=true)→(d.map fun x:UInt8=>(x.toNat:Int)-48).foldl fI (m:Int)=((d.foldl (fun (n:Nat) (x:UInt8)=>10*n+(x.toNat-48)) m:Nat):Int)
 | [],_,_=>rfl
 | x::r,m,h=>by
  have hx:=h x (List.mem_cons_self ..);unfold isDigit at hx;simp only [Bool.and_eq_true,decide_eq_true_eq] at hx;have e:fI (m:Int) ((x.toNat:Int)-48)=((10*m+(x.toNat-48):Nat):Int):=by unfold fI;omega
  show (r.map _).foldl fI (fI (m:Int) ((x.toNat:Int)-48))=_;rw [e];exact sRz r _ fun y hy=>h y (List.mem_cons_of_mem _ hy)
theorem nVz:∀(k:Nat) (m:Int),(List.replicate k (0:Int)).foldl fI m=m*10 ^ k
 | 0,m=>by simp
 | k+1,m=>by
  show (List.replicate k (0:Int)).foldl fI (fI m 0)=_;rw [nVz k,Int.pow_succ];unfold fI;rw [Int.add_zero,Int.mul_assoc,Int.mul_comm 10]
theorem zZz {d f:Bytes} (hd:∀x∈d,isDigit x=true) (hf:∀x∈f,isDigit x=true) (hl:f.length≤12) :
  ((d.map fun x:UInt8=>(x.toNat:Int)-48)++(f.map fun x:UInt8=>(x.toNat:Int)-48)++List.replicate (12-f.length) (0:Int)).foldl fI 0=((decimal d*10 ^ 12+decimal f*10 ^ (12-f.length):Nat):Int):=by
 rw [List.foldl_append,nVz,← List.map_append];have e:=sRz (d++f) 0 (fun x hx=>(List.mem_append.mp hx).elim (hd x) (hf x));rw [show ((0:Nat):Int)=0 from rfl] at e;rw [e];show ((decimal (d++f):Nat):Int)*10 ^ (12-f.length)=_;rw [vC,Int.natCast_add,Int.natCast_mul,Int.natCast_add,Int.natCast_mul,Int.natCast_mul,Int.add_mul];have h12:((10 ^ f.length:Nat):Int)*10 ^ (12-f.length)=((10 ^ 12:Nat):Int):=by
  rw [show ((10 ^ f.length:Nat):Int)=(10:Int) ^ f.length from by rw [Int.natCast_pow];rfl,← Int.pow_add,show f.length+(12-f.length)=12 by omega];rfl
 rw [Int.mul_assoc,h12];rw [show ((10 ^ (12-f.length):Nat):Int)=(10:Int) ^ (12-f.length) from by rw [Int.natCast_pow];rfl]
theorem cT:aI ["reader","sign","digits","decimals","number","digit"] ["reader"] (defScope xL):=by walk_at "s"
inductive uE (a:Adr) (vs:List V) (H:Hp) (Q:VK) (E:XK):Prop
 | mk (r tl txt p) (_:vs=[.ref r]) (_:bE a H r tl txt p) (_:Rs a H r tl txt E (number (cur txt p)) (fun v=>v.2.at_) fun v H'=>Q (.int v.1) H'):uE a vs H Q E
theorem uV (T:Txt K mg a):Ok P w K mg base 7 a.qI ["reader"] (uE a):=by
 have aS := @pP P w K mg base a T;have cK := @eQz P w K mg base a T;have yV := @gTz P w K mg base a T;refine bD T.iYz cT ?b ?l ?h;walk_at "o"
 ·obtain⟨r,tl,txt,p,rfl,_⟩:=h;rfl
 ·obtain⟨r,tl,txt,p,rfl,hR,k⟩:=h
  obtain⟨dx,h1,h2,h3,h4⟩:=id hR
  refine⟨_,(aB (aP (i:=1) cT.nd rfl (Or.inl rfl) aT)
   (aB (dE (eO (pm (pv 0) T.aH T.aW aS (hr.mono (by decide)) passX (aA bB aD))) (aB (aU (pm0 (pv 0) T.aH T.cH cK (hr.mono (by decide)) passX))
   (aE (aP (i:=1) cT.nd rfl (Or.inl rfl) (jUz xA aT)))) bA)
   (aB (aP (i:=2) cT.nd rfl (Or.inl rfl) (pc yV (hr.mono (by decide)) (by rfl) T.yM passX (aA (pv 0) (aA (gI T.j7z) aD))))
   (aB (aP (i:=3) cT.nd rfl (Or.inl rfl) (dM aD))
   (aB (dE (eO (pm (pv 0) T.aH T.aW aS (hr.mono (by decide)) passX (aA bB aD))) (aB (aU (pm0 (pv 0) T.aH T.cH cK (hr.mono (by decide)) passX))
   (aE (aP (i:=3) cT.nd rfl (Or.inl rfl) (pc yV (hr.mono (by decide)) (by rfl) T.yM passX (aA (pv 0) (aA (gI T.zY) aD)))))) bA)
   (aB (aP (i:=4) cT.nd rfl (Or.inl rfl) aT)
   (aB (lN PassesOwn.leaving rfl (eT (aZ eOz (aZ eOz (pv 2) (pv 3)) (aZ op_rep (dM (aA aT aD)) (aZ oV (gI T.zY) (bH bT (by rfl) T.mX nI (aA (pv 3) aD)))))) (cZ (i:=5) cT.nd rfl (Or.inl rfl))
    (aE (aP (i:=4) cT.nd rfl (Or.inl rfl) (aZ gN (aZ ARz (pv 4) aT) (pv 5)))))
   (aE (aR (aZ ARz (pv 1) (pv 4))))))))))),?_⟩
  rw [m9z] at k;have e45:inZ [45] txt p=nextIs (fun x=>x == 45) (cur txt p):=nNz fun x=>has1 x 45;generalize hneg:nextIs (fun (x:UInt8)=>x == 45) (cur txt p)=neg at *;refine BFz ?_;refine lE (fun σ' H2=>∃q,σ'=[some (.ref r),some (.int (sgn neg)),none,none,none,none]∧Kp a.aG H H2∧bE a H2 r tl txt q∧(if neg=true then (cur txt p).on else cur txt p)=cur txt q) (fun N hN=>?_) ?_
  ·refine⟨_,rfl,r,dx,_,rfl,h1,rfl,_,tl,txt,p,_,[45],rfl,oGz,(by show 1≤100;decide),hR,fun H1 s1=>⟨_,rfl,?_⟩⟩
   have hR1:=hR.same s1;obtain⟨dx1,g1,_⟩:=id hR1;rw [e45];cases neg with
   | true =>
    obtain⟨x,hx,_⟩:=bK hneg;refine iteT ⟨_,rfl,r,dx1,_,rfl,g1,rfl,r,tl,txt,p,x,rfl,hR1,hx,fun H2 kp2 hR2=>⟨_,rfl,?_⟩⟩;exact hN _ _ ⟨p+1,rfl,(Kp.same s1).trans kp2,hR2,by rw [if_pos rfl,rM]⟩
   | false=>exact iteF (hN _ _ ⟨p,rfl,.same s1,hR1,by rw [if_neg Bool.false_ne_true]⟩)
  ·rintro σ' H2 ⟨q,rfl,kp2,hR2,hq⟩
   rw [hq] at k;refine⟨_,rfl,r,tl,txt,q,3,rfl,by decide,by decide,hR2,?_⟩;refine Rs.split (fun e he H' d kp f=>?_) (fun v hv H3 kp3 hR3 l hl0 hl=>?_)
   ·rw [he] at k
    exact k H' d (kp2.trans kp) f
   ·obtain⟨d,c⟩:=v
    rw [hv] at k;obtain⟨rfl,hd1,hd2,hdd,_,_,_⟩:=kN (by decide) hv;dsimp only at k hl;have hR3':bE a H3 r tl txt (q+d.length):=hR3;refine⟨Nat.zero_le _,fun l2 hl2=>?_⟩;have kp4:Kp a.aG H (upd H3 l2 (.lst [])):=kp2.trans (kp3.trans (.new hl2));have hR4:=hR3'.new (o := .lst []) hl2;have hl4:upd H3 l2 (.lst []) l=some (.lst (dV d)):=by rw [aO (aX hl hl2)];exact hl
    dsimp only [gName]
    refine lE (fun σ' H5=>∃(f:Bytes) (l3 q2:Nat),σ'=[some (.ref r),some (.int (sgn neg)),some (.ref l),some (.ref l3),none,none]∧Kp a.aG H H5∧bE a H5 r tl txt q2∧H5 l=some (.lst (dV d))∧H5 l3=some (.lst (dV f))∧f.length≤12∧(∀x∈f,isDigit x=true)∧
     (if nextIs (fun (x:UInt8)=>x == 46) (cur txt (q+d.length))=true then someDigits 12 (cur txt (q+d.length)).on else (.ok ([],cur txt (q+d.length)):Except Nat (Bytes×Cur))) = .ok (f,cur txt q2)) (fun N hN=>?_) ?_
    ·obtain⟨dx4,g4,_⟩:=id hR4
     refine⟨_,rfl,r,dx4,_,rfl,g4,rfl,_,tl,txt,q+d.length,_,[46],rfl,z_dot,(by show 1≤100;decide),hR4,fun H5 s5=>⟨_,rfl,?_⟩⟩;have hR5:=hR4.same s5;obtain⟨dx5,g5,_⟩:=id hR5;rw [show inZ [46] txt (q+d.length)=nextIs (fun x=>x == 46) (cur txt (q+d.length)) from nNz fun x=>has1 x 46];cases hdot:nextIs (fun (x:UInt8)=>x == 46) (cur txt (q+d.length)) with
     | false =>
      refine iteF (hN _ _ ⟨[],l2,q+d.length,rfl,kp4.trans (.same s5),hR5,s5 _ _ hl4,s5 _ _ aC,Nat.zero_le _,fun x hx=>(by cases hx),?_⟩);rw [hdot,if_neg Bool.false_ne_true]
     | true =>
      rw [hdot,if_pos rfl,rM] at k;obtain⟨x,hx,_⟩:=bK hdot;refine iteT ⟨_,rfl,r,dx5,_,rfl,g5,rfl,r,tl,txt,q+d.length,x,rfl,hR5,hx,fun H6 kp6 hR6=>?_⟩;refine⟨_,rfl,r,tl,txt,q+d.length+1,12,rfl,by decide,by decide,hR6,?_⟩;refine Rs.split (fun e he H' dd kp f=>?_) (fun v hv2 H7 kp7 hR7 l3 hl30 hl3=>?_)
      ·rw [he] at k
       exact k H' dd (kp4.trans ((Kp.same s5).trans (kp6.trans kp))) f
      ·obtain⟨f,c⟩:=v
       obtain⟨rfl,hf1,hf2,hff,_,_,_⟩:=kN (by decide) hv2;refine hN _ _ ⟨f,l3,q+d.length+1+f.length,rfl,kp4.trans ((Kp.same s5).trans (kp6.trans kp7)),hR7,kp7.lst (kp6.lst (s5 _ _ hl4)),hl3,hf2,hff,?_⟩;rw [hdot,if_pos rfl,rM];exact hv2
    ·rintro σ' H5 ⟨f,l3,q2,rfl,kp5,hR5,hl5,hl35,hfl,hff,hfe⟩
     rw [hfe] at k;dsimp only at k;have dl:(dV d).length=d.length:=List.length_map _;have fl:(dV f).length=f.length:=List.length_map _;refine⟨_,rfl,_,rfl,l,l3,_,_,rfl,rfl,hl5,hl35,(by rw [dl,fl,sizeLine_eq];omega),fun l6 hl6=>?_⟩;refine⟨(by show 1≤sizeLine;decide),fun l7 hl7=>?_⟩;have n36:l3≠l6:=aX hl35 hl6;have hl37:upd (upd H5 l6 (.lst (dV d++dV f))) l7 (.lst [.int 0]) l3=some (.lst (dV f)):=by
      rw [aO (fun z=>by rw [← z,aO n36,hl35] at hl7;cases hl7),aO n36];exact hl35
     have n67:l6≠l7:=fun z=>by rw [← z,aC] at hl7;cases hl7
     refine⟨_,rfl,l3,_,rfl,.inl (SqL.of hl37),_,_,rfl,rfl,l7,_,_,rfl,rfl,aC,(by rw [fl];omega),(by rw [fl];omega),(by rw [fl,sizeLine_eq];show 1*_≤_;omega),fun l8 hl8=>?_⟩;have n68:l6≠l8:=fun z=>by rw [← z,aO n67,aC] at hl8;cases hl8
     refine⟨l6,l8,_,_,rfl,rfl,(by rw [aO n68,aO n67,aC]),aC,?_,fun l9 hl9=>?_⟩
     ·rw [xBz,List.length_append,dl,fl,sizeLine_eq]
      show _+_*1≤_;omega
     ·
      let ns:List Int:=(d.map fun x:UInt8=>(x.toNat:Int)-48)++(f.map fun x:UInt8=>(x.toNat:Int)-48)++List.replicate (12-f.length) (0:Int)
      have hns:(dV d++dV f)++(List.replicate ((12:Int)-((dV f).length:Int)).toNat [V.int 0]).flatten=ns.map V.int:=by
       have e1:(List.replicate ((12:Int)-((dV f).length:Int)).toNat [V.int 0]).flatten=(List.replicate (12-f.length) (0:Int)).map V.int:=by
        rw [fl,show ((12:Int)-(f.length:Int)).toNat=12-f.length by omega,List.flatten_replicate_singleton,List.map_replicate]
       rw [e1];show _=((_++_)++_:List Int).map V.int;rw [List.map_append,List.map_append,List.map_map,List.map_map];rfl
      have s9:∀H9:Hp,H9=upd (upd (upd (upd H5 l6 (.lst (dV d++dV f))) l7 (.lst [.int 0])) l8 (.lst (List.replicate ((12:Int)-((dV f).length:Int)).toNat [V.int 0]).flatten)) l9 (.lst ((dV d++dV f)++(List.replicate ((12:Int)-((dV f).length:Int)).toNat [V.int 0]).flatten))→Same H5 H9∧H9 l9=some (.lst (ns.map V.int)):=fun H9 e=>by
       subst e;exact⟨(aF hl6).trans ((aF hl7).trans ((aF hl8).trans (aF hl9))),by rw [aC,hns]⟩
      obtain⟨s59,hL9⟩:=s9 _ rfl;refine⟨l9,rfl,⟨_,SqL.of hL9⟩,iA (K:=K) (a:=l9) (xs:=ns.map V.int) (fun i σ H'=>∃v:Option V,H'=_∧σ = [some (.ref r),some (.int (sgn neg)),some (.ref l),some (.ref l3),some (.int ((ns.take i).foldl fI 0)),v]) ⟨none,rfl,rfl⟩ (fun i σ H' _ ⟨_,e,_⟩=>by subst e;exact SqL.of hL9) ?_ ?_⟩
      ·rintro i x σ H' hi ⟨v,rfl,rfl⟩
       obtain⟨z,hz,rfl⟩:∃z,ns[i]?=some z∧V.int z=x:=by
        rw [List.getElem?_map] at hi;exact Option.map_eq_some_iff.mp hi
       refine⟨_,rfl,_,_,rfl,rfl,.inr ⟨by decide,by decide⟩,_,rfl,_,_,rfl,rfl,some (.int z),rfl,?_⟩;rw [bQ hz,List.foldl_append];rfl
      ·rintro σ H' ⟨v,rfl,rfl⟩
       rw [List.length_map,List.take_length];refine⟨_,rfl,_,rfl,_,_,rfl,rfl,.inl ?_,?_⟩
       ·unfold sgn
        split <;> exact⟨by decide,by decide⟩
       ·have e:=zZz hdd hff hfl
        have e2:sgn neg*ns.foldl fI 0=numVal neg d f:=by
         show sgn neg*(_:List Int).foldl fI 0=_;rw [e];unfold numVal sgn;cases neg with
         | true=>rw [if_pos rfl,if_pos rfl,Int.neg_one_mul]
         | false=>rw [if_neg Bool.false_ne_true,if_neg Bool.false_ne_true,Int.one_mul]
        show Q (V.int (sgn neg*ns.foldl fI 0)) _;rw [e2];exact k _ (kp5.trans (.same s59)) (hR5.same s59)
theorem n4z (x y:Str):cV (x++y)=cV x++cV y:=by
 unfold cV;rw [show (x++y).cps=x.cps++y.cps from rfl,Array.toList_append,List.map_append]
theorem z_pm:cV (Str.ofString "+-")=bV [43,45]:=by decide +kernel
theorem Paired.snoc' {α β : Type} {R : α→β→Prop}:∀{l:List α} {m:List β} {x : α} {y : β},Paired R l m→R x y→Paired R (l++[x]) (m++[y])
 | _,_,_,_,.nil,h => .cons h .nil
 | _,_,_,_,.cons r t,h => .cons r (Paired.snoc' t h)
def HTs (a:Adr) (H:Hp) (as:List Addr) (ts:List Term):Prop:=Paired (fun x t=>pD a H x t) as ts
inductive eX (a:Adr) (H:Hp) (l:Addr) (ts:List Term):Prop
 | mk (as:List Addr) (_:H l=some (.lst (as.map V.ref))) (_:HTs a H as ts):eX a H l ts
theorem HTs.same {H H':Hp} {as:List Addr} {ts:List Term} (h:HTs a H as ts) (s:Same H H'):HTs a H' as ts:=Paired.mapP h fun _ _ z=>z.same s
theorem HTs.kp {H H':Hp} {as:List Addr} {ts:List Term} (h:HTs a H as ts) (s:Kp a.aG H H') (hn:a.iI≠a.aG):HTs a H' as ts:=Paired.mapP h fun _ _ z=>z.kp s hn
theorem eX.same {H H':Hp} {l:Addr} {ts:List Term} (h:eX a H l ts) (s:Same H H'):eX a H' l ts:=let ⟨as,h1,h2⟩:=h;⟨as,s _ _ h1,h2.same s⟩
theorem eX.kp {H H':Hp} {l:Addr} {ts:List Term} (h:eX a H l ts) (s:Kp a.aG H H') (hn:a.iI≠a.aG):eX a H' l ts:=let ⟨as,h1,h2⟩:=h;⟨as,s.lst h1,h2.kp s hn⟩
theorem pD.lst {H:Hp} {x l:Addr} {t:Term} {xs ys:List V} (h:pD a H x t) (hl:H l=some (.lst xs)):pD a (upd H l (.lst ys)) x t:=by
 obtain⟨dx,n,h1,h2⟩:=h;exact⟨dx,n,by rw [aO (nBz h1 hl (by intro z;cases z))];exact h1,by rw [aO (nBz h2 hl (by intro z;cases z))];exact h2⟩
theorem HTs.lst {H:Hp} {l:Addr} {as:List Addr} {ts:List Term} {xs ys:List V} (h:HTs a H as ts) (hl:H l=some (.lst xs)):HTs a (upd H l (.lst ys)) as ts:=Paired.mapP h fun _ _ z=>z.lst hl
def after (F:Bytes) (txt:Bytes) (ts:List Term) (k:Option UInt8) (q:Nat):Except Nat (List Term×Option UInt8×Cur) :=
 if k=some 43∨k=some 45 then (match blank (cur txt (q+1)) with | .error e => .error e | .ok c3=>terms F (8-ts.length) (k == some 45) ts c3) else .ok (ts,k,cur txt (q+1))
inductive JT (a:Adr) (H:Hp) (r tl:Addr) (txt F:Bytes) (p:Nat) (z:Str) (l m:Nat) (σ : L2.St) (H':Hp):Prop
 | mk (as:List Addr) (ts:List Term) (k:Option UInt8) (q:Nat) (v2 v4:Option V) (_ : σ = [some (.ref r),some (.str z),v2,some (.ref l),v4]) (_:m=8-ts.length) (_:1≤ts.length) (_:ts.length≤8) (_:H' l=some (.lst (as.map V.ref))) (_:HTs a H' as ts) (_:bE a H' r tl txt q) (_:txt[q]?=some (k.getD LF)) (_:(∀x,k=some x→x∈mays ts.length F)) (_:sumIn F (cur txt p)=after F txt ts k q) (_:Kp a.aG H H'):JT a H r tl txt F p z l m σ H'
theorem yP {F:Bytes} {n:Nat} (hn:n<8) (x:UInt8):(F++[43,45]).contains x=(mays n F).contains x:=by
 unfold mays;rw [if_pos (show n<TERMS from hn)];rw [Bool.eq_iff_iff,List.contains_iff_mem,List.contains_iff_mem,List.mem_append,List.mem_append];exact Or.comm
theorem hDz {F:Bytes} (x:UInt8):F.contains x=(mays 8 F).contains x:=by
 unfold mays;rw [if_neg (show ¬ 8<TERMS from by decide),List.nil_append]
theorem gR:aI ["reader","followers","sign","terms","is_last"] ["reader","followers"] (defScope bAz):=by walk_at "s"
inductive pI (a:Adr) (vs:List V) (H:Hp) (Q:VK) (E:XK):Prop
 | mk (r tl txt p z F) (_:vs=[.ref r,.str z]) (_:cV z=bV F) (_:F.length≤10) (_:(43∉F∧45∉F)) (_:bE a H r tl txt p) (_:Rs a H r tl txt E (sumIn F (cur txt p)) (fun v=>v.2.2.at_-1) fun v H'=>∀l,H l=none→eX a H' l v.1→Q (.ref l) H'):pI a vs H Q E
theorem pQ (T:Txt K mg a) (hTR:a.iI≠a.aG):Ok P w K mg base 9 a.sX ["reader","followers"] (pI a):=by
 have aS := @pP P w K mg base a T;have f6z := @mYz P w K mg base a T;have f4z := @mXz P w K mg base a T;have nJ := @yA P w K mg base a T;refine bD T.lCz gR ?b ?l ?h;walk_at "o"
 ·obtain⟨r,tl,txt,p,z,F,rfl,_⟩:=h;rfl
 ·obtain⟨r,tl,txt,p,z,F,rfl,hz,hF,hF2,hR,k⟩:=h
  obtain⟨dx,h1,h2,h3,h4⟩:=id hR
  refine⟨_,(aB (aP (i:=2) gR.nd rfl (Or.inl rfl) (gU (eO (pm (pv 0) T.aH T.aW aS (hr.mono (by decide)) passX (aA bB aD))) (pc f6z (hr.mono (by decide)) (by rfl) T.fJz passX (aA (pv 0) aD)) aT))
   (aB (aP (i:=3) gR.nd rfl (Or.inl rfl) (dM (aA (pc f4z (hr.mono (by decide)) (by rfl) T.fHz passX (aA (pv 0) (aA (pv 2) aD))) aD)))
   (aB (aU (pc nJ (hr.mono (by decide)) (by rfl) T.sM passX (aA (pv 0) (aA (aZ dN (pv 1) bB) aD))))
   (aB (mU PassesOwn.leaving (eO (pm (pv 0) T.aH T.aW aS (hr.mono (by decide)) passX (aA bB aD)))
    (aB (aP (i:=2) gR.nd rfl (Or.inl rfl) (pc f6z (hr.mono (by decide)) (by rfl) T.fJz passX (aA (pv 0) aD)))
   (aB (aU (kP PySem.F.plainAttrs_list PySem.F.slot_list_append PySem.F.type_list_append hJ (pv 3) (aA (pc f4z (hr.mono (by decide)) (by rfl) T.fHz passX (aA (pv 0) (aA (pv 2) aD))) aD)))
   (aB (aP (i:=4) gR.nd rfl (Or.inl rfl) (pO gW (bH bT (by rfl) T.mX nI (aA (pv 3) aD)) (gI T.nJz) (nomark _)))
   (aE (aU (pc nJ (hr.mono (by decide)) (by rfl) T.sM passX (aA (pv 0) (aA (gU (eO (pv 4)) (pv 1) (aZ dN (pv 1) bB)) aD)))))))))
   (aE (aR (pv 3))))))),?_⟩
  have hzl:z.length=F.length:=by rw [← kL,hz,bU]
  have hzpm:cV (z++Str.ofString "+-")=bV (F++[43,45]):=by rw [n4z,hz,z_pm,kM]
  have lpm:(F++[43,45]).length≤100:=by rw [List.length_append];show _+2≤100;omega
  have addl:z.length+(Str.ofString "+-").length≤sizeLine:=by rw [hzl,sizeLine_eq,show (Str.ofString "+-").length=2 from rfl];omega
  have e45:inZ [45] txt p=nextIs (fun x=>x == 45) (cur txt p):=nNz fun x=>has1 x 45;have kk:=k;rw [jEz] at k;generalize hneg:nextIs (fun (x:UInt8)=>x == 45) (cur txt p)=neg at *;refine lE (fun σ' H2=>∃q,σ'=[some (.ref r),some (.str z),some (.int (sgn neg)),none,none]∧Kp a.aG H H2∧bE a H2 r tl txt q∧(if neg=true then blank (cur txt p).on else .ok (cur txt p)) = .ok (cur txt q)) (fun N hN=>?_) ?_
  ·refine⟨_,rfl,r,dx,_,rfl,h1,rfl,_,tl,txt,p,_,[45],rfl,oGz,(by show 1≤100;decide),hR,fun H1 s1=>⟨_,rfl,?_⟩⟩
   have hR1:=hR.same s1;rw [e45];cases neg with
   | true =>
    obtain⟨x,hx,hx45⟩:=bK hneg;rw [if_pos rfl,rM] at k;refine iteT ⟨_,rfl,r,tl,txt,p,x,rfl,hR1,hx,?_⟩;refine Rs.split (fun e he H' d kp f=>?_) (fun c hc H2 kp2 hR2=>?_)
    ·rw [he] at k
     exact k H' d ((Kp.same s1).trans kp) f
    ·have hcc:=dA (w:=[32]) hc
     subst hcc;rw [hx45];exact hN _ _ ⟨p+1+1,rfl,(Kp.same s1).trans kp2,hR2,by rw [if_pos rfl,rM,hc];rfl⟩
   | false=>exact iteF (hN _ _ ⟨p,rfl,.same s1,hR1,by rw [if_neg Bool.false_ne_true]⟩)
  ·rintro σ' H2 ⟨q,rfl,kp2,hR2,hq⟩
   rw [hq] at k;dsimp only at k;rw [tO] at k;have kk2:sumIn F (cur txt p)=terms F 8 neg [] (cur txt q):=by rw [jEz,hneg,hq]
   rw [tO] at kk2;refine⟨_,rfl,_,rfl,r,tl,txt,q,neg,rfl,hR2,?_⟩;refine Rs.split (fun e he H' d kp f=>?_) (fun v hv H3 kp3 hR3 x hx=>⟨(by show 1≤sizeLine;decide),fun l hl=>?_⟩)
   ·rw [he] at k
    exact k H' d (kp2.trans kp) f
   ·obtain⟨t,c⟩:=v
    rw [hv] at k kk2;obtain⟨q1,rfl,_,_⟩:=dMz hv;dsimp only at k kk2;have hR3':bE a H3 r tl txt q1:=hR3;have hl0:H l=none:=kp2.free _ (kp3.free _ hl);have kp4:Kp a.aG H (upd H3 l (.lst [.ref x])):=kp2.trans (kp3.trans (.new hl));have hR4:=hR3'.new (o := .lst [.ref x]) hl;obtain⟨nr,nt⟩:=hR3'.nr hl;refine⟨_,rfl,_,rfl,_,_,rfl,rfl,addl,r,tl,txt,q1,_,F++[43,45],mays 1 F,rfl,hzpm,lpm,yP (by decide),?_,hR4,?_⟩
    ·unfold mays
     rw [if_pos (show 1<TERMS by decide)];constructor <;> intro z <;> simp at z
    ·refine Rs.split (fun e he H' d kp f=>?_) (fun v hv5 H5 kp5 hR5=>?_)
     ·rw [show ([]++[t]:List Term).length=1 from rfl,he] at k
      exact k H' d (kp4.trans kp) f
     ·obtain⟨k5,c5⟩:=v
      obtain⟨q5,_,hB,_⟩:=yR hv5;obtain⟨rfl,hs5,hm5⟩:=hB;have hR5':bE a H5 r tl txt q5:=hR5;have hl5:H5 l=some (.lst ([x].map V.ref)):=kp5.lst aC;have hT5:HTs a H5 [x] [t] := .cons ((hx.same (aF hl)).kp kp5 hTR) .nil;refine⟨JT a H r tl txt F p z l,⟨7,⟨[x],[t],k5,q5,_,none,rfl,rfl,(by show 1≤1;decide),(by show 1≤8;decide),hl5,hT5,hR5',hs5,hm5,?_,kp4.trans kp5⟩⟩,?_⟩
      ·rw [kk2,show ([]++[t]:List Term).length=1 from rfl,hv5]
       rfl
      ·rintro m σ H' ⟨as,ts,k6,q6,v2,v4,rfl,rfl,hts1,hts8,hl6,hT6,hR6,hs6,hm6,hsum,kp6⟩
       obtain⟨dx6,g6,_⟩:=id hR6;refine⟨_,rfl,r,dx6,_,rfl,g6,rfl,_,tl,txt,q6,_,[43,45],rfl,z_pm,(by show 2≤100;decide),hR6,fun H7 s7=>⟨_,rfl,?_⟩⟩;have hR7:=hR6.same s7;rw [dX hs6]
       by_cases hpm:k6=some 43∨k6=some 45
       ·have hb:([43,45]:Bytes).contains (k6.getD LF)=true:=by rcases hpm with rfl | rfl <;> rfl
        rw [hb];refine iteT ⟨fun σ' H3=>∃m',m'<8-ts.length∧JT a H r tl txt F p z l m' σ' H3,fun _ _ z=>z,?_⟩;have hlt:ts.length<8:=by
         rcases Nat.lt_or_ge ts.length 8 with h | h
         ·exact h
         ·exfalso
          have h8:ts.length=8:=by omega
          rw [h8] at hm6;unfold mays at hm6;rw [if_neg (show ¬ 8<TERMS by decide),List.nil_append] at hm6;rcases hpm with rfl | rfl
          ·exact hF2.1 (hm6 _ rfl)
          ·exact hF2.2 (hm6 _ rfl)
        obtain⟨f,hf⟩:∃f,8-ts.length=f+1:=⟨7-ts.length,by omega⟩;have hsum2:=hsum;unfold after at hsum2;rw [if_pos hpm,hf] at hsum2;have e45':(k6 == some 45)=(k6.getD LF == 45):=by rcases hpm with rfl | rfl <;> rfl
        refine⟨_,rfl,r,tl,txt,q6,k6.getD LF,rfl,hR7,hs6,?_⟩;refine Rs.split (fun e he H' d kp f=>?_) (fun c hc H8 kp8 hR8=>?_)
        ·rw [hsum2,he] at kk
         exact kk H' d (kp6.trans ((Kp.same s7).trans kp)) f
        ·have hcc:=dA (w:=[32]) hc
         subst hcc;rw [hc] at hsum2;dsimp only at hsum2;rw [tO] at hsum2;have hR8':bE a H8 r tl txt (q6+1+1):=hR8;have kp8':Kp a.aG H H8:=kp6.trans ((Kp.same s7).trans kp8);have hl8:H8 l=some (.lst (as.map V.ref)):=kp8.lst (s7 _ _ hl6);have hT8:HTs a H8 as ts:=(hT6.same s7).kp kp8 hTR;have asl:(as.map V.ref).length=ts.length:=by rw [List.length_map];exact Paired.length hT8
         refine⟨_,rfl,.inl ⟨rfl,_,SqL.of hl8⟩,_,rfl,_,rfl,r,tl,txt,q6+1+1,(k6 == some 45),(by rw [e45']),hR8',?_⟩;refine Rs.split (fun e he H' d kp f=>?_) (fun v hv H9 kp9 hR9 x' hx'=>?_)
         ·rw [hsum2] at kk
          rw [show (cur txt (q6+1+List.length ([32]:Bytes)))=cur txt (q6+1+1) from rfl,he] at kk;exact kk H' d (kp8'.trans kp) f
         ·obtain⟨t',c'⟩:=v
          rw [show (cur txt (q6+1+List.length ([32]:Bytes)))=cur txt (q6+1+1) from rfl,hv] at hsum2;obtain⟨q9,rfl,_,_⟩:=dMz hv;dsimp only at hsum2;have hR9':bE a H9 r tl txt q9:=hR9;have hl9:H9 l=some (.lst (as.map V.ref)):=kp9.lst hl8;have hT9:HTs a H9 as ts:=hT8.kp kp9 hTR;refine⟨l,_,_,rfl,rfl,hl9,(by rw [asl,sizeLine_eq];omega),?_⟩;have eas:as.map V.ref++[V.ref x']=(as++[x']).map V.ref:=by rw [List.map_append];rfl
          rw [eas];have kp10:Kp a.aG H (upd H9 l (.lst ((as++[x']).map V.ref))):=(kp8'.trans kp9).put hl0;have hR10:bE a (upd H9 l (.lst ((as++[x']).map V.ref))) r tl txt q9:=hR9'.put nr nt;have hT10:HTs a (upd H9 l (.lst ((as++[x']).map V.ref))) (as++[x']) (ts++[t']):=Paired.snoc' (hT9.lst hl9) (hx'.lst hl9);have tl1:(ts++[t']).length=ts.length+1:=by rw [List.length_append];rfl
          have al1:((as++[x']).map V.ref).length=ts.length+1:=by rw [List.length_map,Paired.length hT10,tl1]
          refine⟨_,rfl,l,_,rfl,.inl (SqL.of aC),rfl,?_⟩;have fin:∀(z2:Str) (S:Bytes) (σ2:L2.St),σ2=[some (.ref r),some (.str z),some (.int (sgn (k6.getD LF == 45))),some (.ref l),some (.bl (decide (V.int (((as++[x']).map V.ref).length:Int)=V.int 8)))]→cV z2=bV S→S.length≤100→(∀y,S.contains y=(mays (ts.length+1) F).contains y)→(S=[]↔mays (ts.length+1) F=[])→
            fG a [.ref r,.str z2] (upd H9 l (.lst ((as++[x']).map V.ref))) (fun _ H1=>∃m',m'<8-ts.length∧JT a H r tl txt F p z l m' σ2 H1) E:=by
           intro z2 S σ2 hσ2 hz2 hS1 hS2 hS3;refine⟨r,tl,txt,q9,z2,S,mays (ts.length+1) F,rfl,hz2,hS1,hS2,hS3,hR10,?_⟩;rw [tl1] at hsum2;refine Rs.split (fun e he H' d kp f=>?_) (fun v hv11 H11 kp11 hR11=>?_)
           ·rw [hsum2,he] at kk
            exact kk H' d (kp10.trans kp) f
           ·obtain⟨k11,c11⟩:=v
            obtain⟨q11,_,hB,_⟩:=yR hv11;obtain⟨rfl,hs11,hm11⟩:=hB;refine⟨8-(ts.length+1),by omega,⟨as++[x'],ts++[t'],k11,q11,_,_,hσ2,by rw [tl1],by rw [tl1];omega,by rw [tl1];omega,kp11.lst aC,hT10.kp kp11 hTR,hR11,hs11,by rw [tl1];exact hm11,?_,kp10.trans kp11⟩⟩;rw [hsum2,hv11];unfold after;rw [tl1,show 8-(ts.length+1)=f by omega]
            try rfl
          refine⟨_,rfl,_,rfl,_,rfl,?_⟩;rw [al1]
          by_cases h8:ts.length+1=8
          ·rw [decide_eq_true (show V.int ((ts.length+1:Nat):Int)=V.int 8 by rw [h8];rfl)]
           refine iteT ⟨_,rfl,?_⟩;refine fin z F _ ?_ hz (by omega) (by rw [h8];exact hDz) ?_
           ·rw [al1,decide_eq_true (show V.int ((ts.length+1:Nat):Int)=V.int 8 by rw [h8];rfl)];rfl
           ·rw [h8]
            unfold mays;rw [if_neg (show ¬ 8<TERMS by decide),List.nil_append]
          ·have hne:¬ V.int ((ts.length+1:Nat):Int)=V.int 8:=fun e=>h8 (by have:=V.int.inj e;omega)
           rw [decide_eq_false hne];refine iteF ⟨_,rfl,_,_,rfl,rfl,addl,?_⟩;refine fin _ (F++[43,45]) _ ?_ hzpm lpm (yP (by omega)) ?_
           ·rw [al1,decide_eq_false hne];rfl
           ·unfold mays
            rw [if_pos (show ts.length+1<TERMS from by show _<8;omega)];constructor <;> intro z <;> simp at z
       ·have hb:([43,45]:Bytes).contains (k6.getD LF)=false:=by
         cases k6 with
         | none=>rfl
         | some y =>
          have h43:y≠43:=fun e=>hpm (.inl (by rw [e]));have h45:y≠45:=fun e=>hpm (.inr (by rw [e]));show ([43,45]:Bytes).contains y=false;simp [h43,h45]
        rw [hb];refine iteF ⟨_,rfl,?_⟩;rw [hsum] at kk;unfold after at kk;rw [if_neg hpm] at kk;exact kk H7 (kp6.trans (.same s7)) hR7 l hl0 ⟨as,s7 _ _ hl6,hT6.same s7⟩
inductive iG (a:Adr) (H:Hp) (x:Addr) (p:Part):Prop
 | mk (dx l) (_:H x=some (.ins a.iS dx (qG (.int p.number) (.ref l)))) (_:eX a H l p.sum):iG a H x p
def HSs (a:Adr) (H:Hp) (as:List Addr) (ps:List Part):Prop:=Paired (fun x t=>iG a H x t) as ps
inductive eU (a:Adr) (H:Hp) (l:Addr) (ps:List Part):Prop
 | mk (as:List Addr) (_:H l=some (.lst (as.map V.ref))) (_:HSs a H as ps):eU a H l ps
theorem iG.same {H H':Hp} {x:Addr} {p:Part} (h:iG a H x p) (s:Same H H'):iG a H' x p:=let ⟨dx,l,h1,h2⟩:=h;⟨dx,l,s _ _ h1,h2.same s⟩
theorem HSs.same {H H':Hp} {as:List Addr} {ps:List Part} (h:HSs a H as ps) (s:Same H H'):HSs a H' as ps:=Paired.mapP h fun _ _ z=>z.same s
theorem eU.same {H H':Hp} {l:Addr} {ps:List Part} (h:eU a H l ps) (s:Same H H'):eU a H' l ps:=let ⟨as,h1,h2⟩:=h;⟨as,s _ _ h1,h2.same s⟩
structure Nr (a:Adr):Prop where
 t:a.iI≠a.aG
 s:a.iS≠a.aG
 al:a.cJ≠a.aG
 wl:a.cM≠a.aG
 sl:a.eD≠a.aG
theorem iG.kp {H H':Hp} {x:Addr} {p:Part} (h:iG a H x p) (s:Kp a.aG H H') (hn:Nr a):iG a H' x p:=let ⟨dx,l,h1,h2⟩:=h;⟨dx,l,s.ins h1 hn.s,h2.kp s hn.t⟩
theorem HSs.kp {H H':Hp} {as:List Addr} {ps:List Part} (h:HSs a H as ps) (s:Kp a.aG H H') (hn:Nr a):HSs a H' as ps:=Paired.mapP h fun _ _ z=>z.kp s hn
theorem eU.kp {H H':Hp} {l:Addr} {ps:List Part} (h:eU a H l ps) (s:Kp a.aG H H') (hn:Nr a):eU a H' l ps:=let ⟨as,h1,h2⟩:=h;⟨as,s.lst h1,h2.kp s hn⟩
theorem eX.put {H:Hp} {l l2:Addr} {ts:List Term} {xs ys:List V} (h:eX a H l ts) (hl:H l2=some (.lst xs)) (hne:l≠l2):eX a (upd H l2 (.lst ys)) l ts:=by
 obtain⟨as,h1,h2⟩:=h;exact⟨as,by rw [aO hne];exact h1,h2.lst hl⟩
def hLz (H:Hp) (as:List Addr) (l2:Addr):Prop := ∀x∈as,∀C dx fs l,H x=some (.ins C dx fs)→fs.lookup ("terms" : Str)=some (.ref l)→l≠l2
theorem iG.put {H:Hp} {x l2:Addr} {p:Part} {xs ys:List V} (h:iG a H x p) (hl:H l2=some (.lst xs)) (hne:∀C dx fs l,H x=some (.ins C dx fs)→fs.lookup ("terms" : Str)=some (.ref l)→l≠l2):iG a (upd H l2 (.lst ys)) x p:=by
 obtain⟨dx,l,h1,h2⟩:=h;exact⟨dx,l,by rw [aO (nBz h1 hl (by intro z;cases z))];exact h1,h2.put hl (hne _ _ _ l h1 rfl)⟩
theorem hLz.put {H:Hp} {as:List Addr} {l2:Addr} {ys:List V} (h:hLz H as l2):hLz (upd H l2 (.lst ys)) as l2:=fun x hx C dx fs l h1 h2=>by
 have hne:x≠l2:=fun z=>by rw [z,aC] at h1;cases h1
 rw [aO hne] at h1;exact h x hx C dx fs l h1 h2
theorem Paired.mapMem {α β : Type} {F G : α→β→Prop}:∀{l:List α} {m:List β},Paired F l m→(∀x∈l,∀y,F x y→G x y)→Paired G l m
 | _,_,.nil,_ => .nil
 | _,_,.cons r t,f => .cons (f _ (List.mem_cons_self ..) _ r) (Paired.mapMem t fun x hx=>f x (List.mem_cons_of_mem _ hx))
theorem HSs.put {H:Hp} {as:List Addr} {ps:List Part} {l2:Addr} {xs ys:List V} (h:HSs a H as ps) (hl:H l2=some (.lst xs)) (hA:hLz H as l2):HSs a (upd H l2 (.lst ys)) as ps:=Paired.mapMem h fun x hx _ z=>z.put hl (hA x hx)
theorem hLz.kp {H H':Hp} {as:List Addr} {ps:List Part} {l2:Addr} (h:hLz H as l2) (hS:HSs a H as ps) (s:Kp a.aG H H') (hn:Nr a):hLz H' as l2:=by
 intro x hx C dx fs l h1 h2
 have:∀{as:List Addr} {ps:List Part},HSs a H as ps→x∈as→∃p,iG a H x p:=by
  intro as ps hS
  induction hS with
  | nil=>intro hx;cases hx
  | cons r t ih =>
   intro hx;rcases List.mem_cons.mp hx with rfl | hx
   ·exact⟨_,r⟩
   ·exact ih hx
 obtain⟨p,dx',l',g1,g2⟩:=this hS hx;have g1':=s.ins g1 hn.s;rw [h1] at g1';cases g1';exact h x hx _ _ _ l g1 h2
inductive JP (a:Adr) (H:Hp) (r tl:Addr) (txt:Bytes) (letter:UInt8) (W L:Bytes) (p:Nat) (k0:Option UInt8) (z1 z2 z3:Str) (l m:Nat) (σ : L2.St) (H':Hp):Prop
 | mk (as:List Addr) (ps:List Part) (k:Option UInt8) (q:Nat) (v5 v6 v7:Option V) (_ : σ = [some (.ref r),some (.str z1),some (.str z2),some (.str z3),some (.ref l),v5,v6,v7]) (_:m=8-ps.length) (_:ps.length≤8) (_:H' l=some (.lst (as.map V.ref))) (_:HSs a H' as ps) (_:hLz H' as l) (_:bE a H' r tl txt q) (_:txt[q]?=some (k.getD LF)) (_:(ps.length=8→k≠some letter)) (_:partsIn letter W L 8 k0 [] (cur txt (p+1))=partsIn letter W L (8-ps.length) k ps (cur txt (q+1))) (_:Kp a.aG H H'):JP a H r tl txt letter W L p k0 z1 z2 z3 l m σ H'
theorem fU:aI ["reader","word","followers","last_followers","swings","number","is_last","terms"] ["reader","word","followers","last_followers"] (defScope xK):=by walk_at "s"
inductive uD (a:Adr) (vs:List V) (H:Hp) (Q:VK) (E:XK):Prop
 | mk (r tl txt p zw W letter zf zl L k) (_:vs=[.ref r,.str zw,.str zf,.str zl]) (_:cV zw=bV (letter::W)) (_:W.length≤10) (_:cV zf=bV (letter::L)) (_:cV zl=bV L) (_:L.length≤5) (_:letter∉L) (_:letter≠LF) (_:(43∉letter::L∧45∉letter::L)) (_:bE a H r tl txt p) (_:txt[p]?=some (Option.getD k LF)) (_:Rs a H r tl txt E (partsIn letter W L 8 k [] (cur txt (p+1))) (fun v=>v.2.2.at_-1) fun v H'=>∀l,eU a H' l v.1→Q (.ref l) H'):uD a vs H Q E
theorem gSz (T:Txt K mg a) (hn:Nr a):Ok P w K mg base 10 a.qH ["reader","word","followers","last_followers"] (uD a):=by
 have aS := @pP P w K mg base a T;have aJ := @dQ P w K mg base a T;have kY := @uV P w K mg base a T;have jI := @pQ P w K mg base a T hn.t;have DFz := @zFz P w K mg base a T;refine bD T.iXz fU ?b ?l ?h;walk_at "o"
 ·obtain⟨r,tl,txt,p,zw,W,letter,zf,zl,L,k,rfl,_⟩:=h;rfl
 ·obtain⟨r,tl,txt,p,zw,W,letter,zf,zl,L,k0,rfl,hzw,hW,hzf,hzl,hL,hlL,hlf,hm,hR,hs0,k⟩:=h
  refine⟨_,(aB (aP (i:=4) fU.nd rfl (Or.inl rfl) (dM aD))
   (aB (mU PassesOwn.leaving (eO (pm (pv 0) T.aH T.aW aS (hr.mono (by decide)) passX (aA (pN ix_str (pv 1) aT (fun _ _=>rfl)) aD)))
    (aB (aU (pm (pv 0) T.aH T.aQ aJ (hr.mono (by decide)) passX (aA (pv 1) aD)))
   (aB (aP (i:=5) fU.nd rfl (Or.inl rfl) (pc kY (hr.mono (by decide)) (by rfl) T.qB passX (aA (pv 0) aD)))
   (aB (aU (pm (pv 0) T.aH T.aQ aJ (hr.mono (by decide)) passX (aA bB aD)))
   (aB (aP (i:=6) fU.nd rfl (Or.inl rfl) (pO gW (bH bT (by rfl) T.mX nI (aA (pv 4) aD)) (aZ oV (gI T.j5z) aT) (nomark _)))
   (aB (aP (i:=7) fU.nd rfl (Or.inl rfl) (pc jI (hr.mono (by decide)) (by rfl) T.sN passX (aA (pv 0) (aA (gU (eO (pv 6)) (pv 3) (pv 2)) aD))))
   (aE (aU (kP PySem.F.plainAttrs_list PySem.F.slot_list_append PySem.F.type_list_append hJ (pv 4) (aA (pn T.zIz DFz (hr.mono (by decide)) (by rfl) T.COz passN (aA (pv 5) (aA (pv 7) aD))) aD))))))))))
   (aE (aR (pv 4))))),?_⟩
  refine⟨Nat.zero_le _,fun l hl=>?_⟩;obtain⟨nr,nt⟩:=hR.nr hl;have hc0:zw.cps.toList[0]?=some letter.toNat:=by
   have:(cV zw)[0]?=some (V.int (letter.toNat:Int)):=by rw [hzw];rfl
   unfold cV at this;rw [List.getElem?_map] at this;obtain⟨c,h1,h2⟩:=Option.map_eq_some_iff.mp this;rw [h1]
   have:=V.int.inj h2
   exact congrArg some (by omega)
  have hzwl:zw.length≤sizeLine:=by rw [← kL,hzw,bU,sizeLine_eq];show W.length+1≤_;omega
  refine⟨JP a H r tl txt letter W L p k0 zw zf zl l,⟨8,⟨[],[],k0,p,none,none,none,rfl,rfl,(by show 0≤8;decide),aC,.nil,fun x hx=>(by cases hx),hR.new hl,hs0,fun z=>(by cases z),rfl,.new hl⟩⟩,?_⟩;rintro m σ H' ⟨as,ps,k6,q6,v5,v6,v7,rfl,rfl,hps8,hl6,hS6,hA6,hR6,hs6,h86,hpart,kp6⟩;obtain⟨dx6,g6,_⟩:=id hR6;have hcz:cV ⟨#[letter.toNat]⟩=bV [letter]:=rfl;refine⟨_,rfl,r,dx6,_,rfl,g6,rfl,_,rfl,_,_,_,rfl,rfl,hzwl,fF (j:=0) hc0,_,tl,txt,q6,_,[letter],rfl,hcz,(by show 1≤100;decide),hR6,fun H7 s7=>⟨_,rfl,?_⟩⟩;have hR7:=hR6.same s7;rw [dX hs6,has1]
  by_cases hk:k6=some letter
  ·subst hk
   rw [show ((some letter).getD LF == letter)=true from beq_self_eq_true _];have hlt:ps.length<8:=by
    rcases Nat.lt_or_ge ps.length 8 with h | h
    ·exact h
    ·exact absurd rfl (h86 (by omega))
   obtain⟨f,hf⟩:∃f,8-ps.length=f+1:=⟨7-ps.length,by omega⟩;rw [hf,eNz] at hpart;refine iteT ⟨fun σ' H3=>∃m',m'<8-ps.length∧JP a H r tl txt letter W L p k0 zw zf zl l m' σ' H3,fun _ _ z=>z,?_⟩;obtain⟨dx7,g7,_⟩:=id hR7;refine⟨_,rfl,r,dx7,_,rfl,g7,rfl,_,rfl,r,tl,txt,q6,zw,letter::W,rfl,hzw,(by show W.length+1≤100;omega),hR7,?_⟩;rw [kT,if_pos (show txt[q6]?=some letter from hs6)];have kp7:Kp a.aG H H7:=kp6.trans (.same s7);refine Rs.split (fun e he H' d kp f=>?_) (fun c hc H8 kp8 hR8=>?_)
   ·rw [hpart,he] at k
    exact k H' d (kp7.trans kp) f
   ·rw [hc] at hpart
    have hcc:=dA hc;subst hcc;generalize hq8:q6+1+W.length=q8 at *;dsimp only at hpart;have hR8':bE a H8 r tl txt q8:=hR8;refine⟨_,rfl,r,tl,txt,q8,rfl,hR8',?_⟩;refine Rs.split (fun e he H' d kp f=>?_) (fun v hv H9 kp9 hR9=>?_)
    ·rw [hpart,he] at k
     exact k H' d (kp7.trans (kp8.trans kp)) f
    ·obtain⟨num,c9⟩:=v
     rw [hv] at hpart;obtain⟨q9,_,_,_,rfl,_⟩:=lQ hv;dsimp only at hpart;have hR9':bE a H9 r tl txt q9:=hR9;obtain⟨dx9,g9,_⟩:=id hR9';refine⟨_,rfl,r,dx9,_,rfl,g9,rfl,_,tl,txt,q9,_,[32],rfl,pF,(by show 1≤100;decide),hR9',?_⟩;refine Rs.split (fun e he H' d kp f=>?_) (fun c hc2 H10 kp10 hR10=>?_)
     ·rw [hpart,show blank (cur txt q9)=lit [32] (cur txt q9) from rfl,he] at k
      exact k H' d (kp7.trans (kp8.trans (kp9.trans kp))) f
     ·rw [show blank (cur txt q9)=lit [32] (cur txt q9) from rfl,hc2] at hpart
      have hcc:=dA hc2;subst hcc;dsimp only at hpart;have hR10':bE a H10 r tl txt (q9+1):=hR10;have kp0a:Kp a.aG H7 H10:=kp8.trans (kp9.trans kp10);have hla:H10 l=some (.lst (as.map V.ref)):=kp0a.lst (s7 _ _ hl6);have hSa:HSs a H10 as ps:=(hS6.same s7).kp kp0a hn;have asl:(as.map V.ref).length=ps.length:=by rw [List.length_map];exact Paired.length hSa
      refine⟨_,rfl,l,_,rfl,.inl (SqL.of hla),_,_,rfl,rfl,rfl,?_⟩;dsimp only [gName];have hAa:hLz H10 as l:=(hA6.kp hS6 (.same s7) hn).kp (hS6.same s7) kp0a hn;have kp10':Kp a.aG H H10:=kp7.trans kp0a;have hF43:43∉(if f=0 then [] else [letter])++L∧45∉(if f=0 then [] else [letter])++L:=by
       by_cases h0:f=0
       ·rw [if_pos h0,List.nil_append]
        exact⟨fun z=>hm.1 (List.mem_cons_of_mem _ z),fun z=>hm.2 (List.mem_cons_of_mem _ z)⟩
       ·rw [if_neg h0]
        exact hm
      refine lE (fun σ' H11=>∃lt s k11 q11 c11 v6,σ'=[some (.ref r),some (.str zw),some (.str zf),some (.str zl),some (.ref l),some (.int num),v6,some (.ref lt)]∧H10 lt=none∧Kp a.aG H10 H11∧eX a H11 lt s∧bE a H11 r tl txt q11∧c11=cur txt (q11+1)∧txt[q11]?=some (Option.getD k11 LF)∧(f=0→k11≠some letter)∧sumIn ((if f=0 then [] else [letter])++L) (cur txt (q9+1)) = .ok (s,k11,c11)) (fun N hN=>?_) ?_
      ·have fin:∀(z:Str) (F:Bytes) (v6:Option V),cV z=bV F→F.length≤10→F=(if f=0 then [] else [letter])++L→pI a [.ref r,.str z] H10 (fun v H1=>N [some (.ref r),some (.str zw),some (.str zf),some (.str zl),some (.ref l),some (.int num),v6,some v] H1) E:=by
        intro z F v6 hz hFl hF;subst hF;refine⟨r,tl,txt,q9+1,z,_,rfl,hz,hFl,hF43,hR10',?_⟩;refine Rs.split (fun e he H' d kp f=>?_) (fun v hv11 H11 kp11 hR11 lt hlt0 hTt=>?_)
        ·rw [hpart,show (cur txt (q9+List.length ([32]:Bytes)))=cur txt (q9+1) from rfl,he] at k
         exact k H' d (kp10'.trans kp) f
        ·obtain⟨s,k11,c11⟩:=v
         obtain⟨e11,q11,_,hSE⟩:=tQ hF43 hv11;obtain⟨rfl,hs11,hm11⟩:=hSE.beh;refine hN _ _ ⟨lt,s,k11,q11,_,v6,rfl,hlt0,kp11,hTt,hR11,rfl,hs11,fun h0 e=>?_,hv11⟩
         have:=hm11 letter e
         rw [if_pos h0,List.nil_append] at this;exact hlL this
       refine⟨_,rfl,_,rfl,_,rfl,?_⟩;rw [asl]
       by_cases h7:ps.length=7
       ·have h0:f=0:=by omega
        rw [decide_eq_true (show V.int ((ps.length:Nat):Int)=V.int (8-1) by rw [h7];rfl)];exact iteT ⟨_,rfl,fin zl L _ hzl (by omega) (by rw [if_pos h0];rfl)⟩
       ·have h0:¬ f=0:=by omega
        rw [decide_eq_false (show ¬ V.int ((ps.length:Nat):Int)=V.int (8-1) from fun e=>h7 (by have:=V.int.inj e;omega))];exact iteF ⟨_,rfl,fin zf (letter::L) _ hzf (by show L.length+1≤10;omega) (by rw [if_neg h0];rfl)⟩
      ·rintro σ' H11 ⟨lt,s,k11,q11,c11,v6',rfl,hlt0,kp11,hTt,hR11,rfl,hs11,hk11,hsum⟩
       rw [show (cur txt (q9+List.length ([32]:Bytes)))=cur txt (q9+1) from rfl,hsum] at hpart;dsimp only at hpart;have hl11:H11 l=some (.lst (as.map V.ref)):=kp11.lst hla;have hS11:HSs a H11 as ps:=hSa.kp kp11 hn;have nlt:lt≠l:=fun z=>by rw [z,hla] at hlt0;cases hlt0
       refine⟨_,rfl,.inl ⟨rfl,_,SqL.of hl11⟩,_,rfl,_,rfl,fun x dx' nx ndx hne=>?_⟩;refine⟨x,dx',_,_,rfl,aC,rfl,?_⟩;rw [kJ];have s12:Same H11 (mkH H11 x dx' a.iS (qG (.int num) (.ref lt))):=dS nx ndx;have hl12:=s12 _ _ hl11;refine⟨l,_,_,rfl,rfl,hl12,(by rw [asl,sizeLine_eq];omega),?_⟩;have eas:as.map V.ref++[V.ref x]=(as++[x]).map V.ref:=by rw [List.map_append];rfl
       rw [eas];have hA12:hLz (mkH H11 x dx' a.iS (qG (.int num) (.ref lt))) (as++[x]) l:=fun y hy C dx fs l' h1 h2=>by
        rcases List.mem_append.mp hy with hy | hy
        ·exact ((hAa.kp hSa kp11 hn).kp hS11 (.same s12) hn) y hy C dx fs l' h1 h2
        ·rw [List.mem_singleton.mp hy,iH] at h1
         cases h1;rw [iZ] at h2;cases h2;exact nlt
       have hx12:iG a (mkH H11 x dx' a.iS (qG (.int num) (.ref lt))) x ⟨num,s⟩:=⟨dx',lt,iH,hTt.same s12⟩;have tl1:(ps++[⟨num,s⟩]:List Part).length=ps.length+1:=by rw [List.length_append];rfl
       refine⟨8-(ps.length+1),by omega,⟨as++[x],ps++[⟨num,s⟩],k11,q11,_,_,_,rfl,by rw [tl1],by rw [tl1];omega,aC,HSs.put (Paired.snoc' (hS11.same s12) hx12) hl12 hA12,hA12.put,(hR11.same s12).put nr nt,hs11,fun z=>hk11 (by rw [tl1] at z;omega),?_,(kp10'.trans (kp11.trans (.same s12))).put hl⟩⟩;rw [hpart,tl1,show 8-(ps.length+1)=f by omega]
  ·have hb:(k6.getD LF == letter)=false:=by
    refine beq_eq_false_iff_ne.mpr fun e=>?_;cases k6 with
    | none=>exact hlf e.symm
    | some y=>exact hk (by rw [show y=letter from e])
   rw [hb];refine iteF ⟨_,rfl,?_⟩;rw [hpart,hZz hk] at k;exact k H7 (kp6.trans (.same s7)) hR7 l ⟨as,s7 _ _ hl6,hS6.same s7⟩
def kC (H H':Hp):Prop := ∀b o,H b=some o→(∀x u,o≠.frz x u)→H' b=some o
theorem kC.of {H H':Hp} (s:Same H H'):kC H H':=fun b o h _=>s b o h
theorem kC.upd {H:Hp} {l:Addr} {x:Obj} {u o:HO} (h:H l=some (.frz x u)):kC H (upd H l o):=fun b o' hb n=>by
 rw [aO (fun z=>by rw [z,h] at hb;cases hb;exact n x u rfl)];exact hb
theorem pD.sn {H H':Hp} {x:Addr} {t:Term} (h:pD a H x t) (s:kC H H'):pD a H' x t:=let ⟨dx,n,h1,h2⟩:=h;⟨dx,n,s _ _ h1 (by intro x u z;cases z),s _ _ h2 (by intro x u z;cases z)⟩
theorem eX.sn {H H':Hp} {l:Addr} {ts:List Term} (h:eX a H l ts) (s:kC H H'):eX a H' l ts:=let ⟨as,h1,h2⟩:=h;⟨as,s _ _ h1 (by intro x u z;cases z),Paired.mapP h2 fun _ _ z=>z.sn s⟩
theorem iG.sn {H H':Hp} {x:Addr} {p:Part} (h:iG a H x p) (s:kC H H'):iG a H' x p:=let ⟨dx,l,h1,h2⟩:=h;⟨dx,l,s _ _ h1 (by intro x u z;cases z),h2.sn s⟩
theorem eU.sn {H H':Hp} {l:Addr} {ps:List Part} (h:eU a H l ps) (s:kC H H'):eU a H' l ps:=let ⟨as,h1,h2⟩:=h;⟨as,s _ _ h1 (by intro x u z;cases z),Paired.mapP h2 fun _ _ z=>z.sn s⟩
def fS (a:Adr) (H:Hp) (x:Addr):Line→Prop
 | .angle n p ph rt=>∃dx nn,H x=some (.ins a.cJ dx (gP (.ref nn) (.int (p:Int)) (.int ph) (.int rt)))∧H nn=some (.tup (bV n))
 | .wave n p s q fs ss=>∃dx nn lt lf ls,H x=some (.ins a.cM dx (fD (.ref nn) (.int (p:Int)) (.ref lt) (.int ((90*q:Nat):Int)) (.ref lf) (.ref ls)))∧H nn=some (.tup (bV n))∧eX a H lt s∧eU a H lf fs∧eU a H ls ss
 | .sum n p s=>∃dx nn lt,H x=some (.ins a.eD dx (oY (.ref nn) (.int (p:Int)) (.ref lt)))∧H nn=some (.tup (bV n))∧eX a H lt s
theorem fS.sn {H H':Hp} {x:Addr}:∀{l:Line},fS a H x l→kC H H'→fS a H' x l
 | .angle _ _ _ _,h,s=>let ⟨dx,nn,h1,h2⟩:=h;⟨dx,nn,s _ _ h1 (by intro x u z;cases z),s _ _ h2 (by intro x u z;cases z)⟩
 | .wave _ _ _ _ _ _,h,s=>let ⟨dx,nn,lt,lf,ls,h1,h2,h3,h4,h5⟩:=h;⟨dx,nn,lt,lf,ls,s _ _ h1 (by intro x u z;cases z),s _ _ h2 (by intro x u z;cases z),h3.sn s,h4.sn s,h5.sn s⟩
 | .sum _ _ _,h,s=>let ⟨dx,nn,lt,h1,h2,h3⟩:=h;⟨dx,nn,lt,s _ _ h1 (by intro x u z;cases z),s _ _ h2 (by intro x u z;cases z),h3.sn s⟩
theorem fS.same {H H':Hp} {x:Addr} {l:Line} (h:fS a H x l) (s:Same H H'):fS a H' x l:=h.sn (.of s)
theorem fS.kp {H H':Hp} {x:Addr} (hn:Nr a):∀{l:Line},fS a H x l→Kp a.aG H H'→fS a H' x l
 | .angle _ _ _ _,h,s=>let ⟨dx,nn,h1,h2⟩:=h;⟨dx,nn,s.ins h1 hn.al,s.tup h2⟩
 | .wave _ _ _ _ _ _,h,s=>let ⟨dx,nn,lt,lf,ls,h1,h2,h3,h4,h5⟩:=h;⟨dx,nn,lt,lf,ls,s.ins h1 hn.wl,s.tup h2,h3.kp s hn.t,h4.kp s hn,h5.kp s hn⟩
 | .sum _ _ _,h,s=>let ⟨dx,nn,lt,h1,h2,h3⟩:=h;⟨dx,nn,lt,s.ins h1 hn.sl,s.tup h2,h3.kp s hn.t⟩
def HLs (a:Adr) (H:Hp) (as:List Addr) (ls:List Line):Prop:=Paired (fun x t=>fS a H x t) as ls
inductive pE (a:Adr) (H:Hp) (l:Addr) (ls:List Line):Prop
 | mk (as:List Addr) (_:H l=some (.lst (as.map V.ref))) (_:HLs a H as ls):pE a H l ls
theorem u7z:cV (Str.ofString "angle" ++ Str.ofString " ")=bV [97,110,103,108,101,32]:=by decide +kernel
theorem ACz:cV (Str.ofString "wave" ++ Str.ofString " ")=bV [119,97,118,101,32]:=by decide +kernel
theorem z_sum:cV (Str.ofString "sum" ++ Str.ofString " ")=bV [115,117,109,32]:=by decide +kernel
def angB (txt:Bytes) (p:Nat):Except Nat (Line×Nat):=match lit [97,110,103,108,101,32] (cur txt p) with
 | .error q => .error q
 | .ok c1=>match nameIn c1 with
  | .error q => .error q
  | .ok (n,c2)=>match blank c2 with
   | .error q => .error q
   | .ok c3=>match number c3 with
    | .error q => .error q
    | .ok (x,c4)=>match blank c4 with
     | .error q => .error q
     | .ok c5=>match number c5 with
      | .error q => .error q
      | .ok (y,c6) => .ok (.angle n c1.at_ x y,c6.at_)
theorem dP:aI ["reader","place","name","phase","rate"] ["reader"] (defScope oO):=by walk_at "s"
inductive mL (a:Adr) (vs:List V) (H:Hp) (Q:VK) (E:XK):Prop
 | mk (r tl txt p) (_:vs=[.ref r]) (_:bE a H r tl txt p) (_:Rs a H r tl txt E (angB txt p) (fun v=>v.2) fun v H'=>∀x,fS a H' x v.1→Q (.ref x) H'):mL a vs H Q E
theorem yC (T:Txt K mg a):Ok P w K mg base 8 a.iQ ["reader"] (mL a):=by
 have aJ := @dQ P w K mg base a T;have gL := @mV P w K mg base a T;have kY := @uV P w K mg base a T;have qUz := @m8z P w K mg base a T;refine bD T.zA dP ?b ?l ?h;walk_at "o"
 ·obtain⟨r,tl,txt,p,rfl,_⟩:=h;rfl
 ·obtain⟨r,tl,txt,p,rfl,hR,k⟩:=h
  obtain⟨dx,h1,_⟩:=id hR
  refine⟨_,(aB (aU (pm (pv 0) T.aH T.aQ aJ (hr.mono (by decide)) passX (aA (aZ dN (gS T.sL) bB) aD)))
   (aB (aP (i:=1) dP.nd rfl (Or.inl rfl) (aM (pv 0) rfl))
   (aB (aP (i:=2) dP.nd rfl (Or.inl rfl) (pc gL (hr.mono (by decide)) (by rfl) T.qC passX (aA (pv 0) aD)))
   (aB (aU (pm (pv 0) T.aH T.aQ aJ (hr.mono (by decide)) passX (aA bB aD)))
   (aB (aP (i:=3) dP.nd rfl (Or.inl rfl) (pc kY (hr.mono (by decide)) (by rfl) T.qB passX (aA (pv 0) aD)))
   (aB (aU (pm (pv 0) T.aH T.aQ aJ (hr.mono (by decide)) passX (aA bB aD)))
   (aB (aP (i:=4) dP.nd rfl (Or.inl rfl) (pc kY (hr.mono (by decide)) (by rfl) T.qB passX (aA (pv 0) aD)))
   (aE (aR (pn T.nDz qUz (hr.mono (by decide)) (by rfl) T.p7z passN (aA (pv 2) (aA (pv 1) (aA (pv 3) (aA (pv 4) aD)))))))))))))),?_⟩
  unfold angB at k;refine⟨_,rfl,r,dx,_,rfl,h1,rfl,_,_,rfl,rfl,(by decide +kernel),r,tl,txt,p,_,_,rfl,u7z,(by show 6≤100;decide),hR,?_⟩;refine Rs.split (fun e he H' d kp f=>?_) (fun c hc H1 kp1 hR1=>?_)
  ·rw [he] at k;exact k H' d kp f
  rw [hc] at k;have hcc:=dA hc;subst hcc;generalize p+List.length ([97,110,103,108,101,32]:Bytes)=p1 at *;dsimp only at k;have hR1:bE a H1 r tl txt p1:=hR1;obtain⟨dx1,g1,_⟩:=id hR1;refine⟨_,rfl,r,_,dx1,_,_,rfl,g1,T.aH,T.cD,nE _ _,_,rfl,r,tl,txt,p1,rfl,hR1,?_⟩;refine Rs.split (fun e he H' d kp f=>?_) (fun v hv H2 kp2 hR2 nn hnn=>?_)
  ·rw [he] at k;exact k H' d (kp1.trans kp) f
  obtain⟨n,c2⟩:=v;rw [hv] at k;obtain⟨rfl,_,_,_⟩:=gX hv;dsimp only at k hnn;have hR2:bE a H2 r tl txt (p1+n.length):=hR2;obtain⟨dx2,g2,_⟩:=id hR2;refine⟨_,rfl,r,dx2,_,rfl,g2,rfl,_,tl,txt,p1+n.length,_,[32],rfl,pF,(by show 1≤100;decide),hR2,?_⟩;refine Rs.split (fun e he H' d kp f=>?_) (fun c hc3 H3 kp3 hR3=>?_)
  ·rw [show blank (cur txt (p1+n.length))=_ from he] at k;exact k H' d (kp1.trans (kp2.trans kp)) f
  rw [show blank (cur txt (p1+n.length))=_ from hc3] at k;have hcc:=dA hc3;subst hcc;dsimp only at k;have hR3:bE a H3 r tl txt (p1+n.length+1):=hR3;refine⟨_,rfl,r,tl,txt,p1+n.length+1,rfl,hR3,?_⟩;refine Rs.split (fun e he H' d kp f=>?_) (fun v hv4 H4 kp4 hR4=>?_)
  ·rw [show number (cur txt (p1+n.length+List.length ([32]:Bytes)))=_ from he] at k;exact k H' d (kp1.trans (kp2.trans (kp3.trans kp))) f
  obtain⟨x,c4⟩:=v;rw [show number (cur txt (p1+n.length+List.length ([32]:Bytes)))=_ from hv4] at k;obtain⟨p4,_,_,_,rfl,_⟩:=lQ hv4;dsimp only at k;have hR4:bE a H4 r tl txt p4:=hR4;obtain⟨dx4,g4,_⟩:=id hR4;refine⟨_,rfl,r,dx4,_,rfl,g4,rfl,_,tl,txt,p4,_,[32],rfl,pF,(by show 1≤100;decide),hR4,?_⟩;refine Rs.split (fun e he H' d kp f=>?_) (fun c hc5 H5 kp5 hR5=>?_)
  ·rw [show blank (cur txt p4)=_ from he] at k;exact k H' d (kp1.trans (kp2.trans (kp3.trans (kp4.trans kp)))) f
  rw [show blank (cur txt p4)=_ from hc5] at k;have hcc:=dA hc5;subst hcc;dsimp only at k;have hR5:bE a H5 r tl txt (p4+1):=hR5;refine⟨_,rfl,r,tl,txt,p4+1,rfl,hR5,?_⟩;refine Rs.split (fun e he H' d kp f=>?_) (fun v hv6 H6 kp6 hR6=>?_)
  ·rw [show number (cur txt (p4+List.length ([32]:Bytes)))=_ from he] at k;exact k H' d (kp1.trans (kp2.trans (kp3.trans (kp4.trans (kp5.trans kp))))) f
  obtain⟨y,c6⟩:=v;rw [show number (cur txt (p4+List.length ([32]:Bytes)))=_ from hv6] at k;dsimp only at k hR6;have hnn6:=kp6.tup (kp5.tup (kp4.tup (kp3.tup hnn)));refine⟨_,rfl,_,rfl,_,rfl,_,rfl,fun x' dx' nx ndx hne=>?_⟩;refine⟨x',dx',_,_,_,_,rfl,aC,rfl,?_⟩;rw [kJ];have s7:Same H6 (mkH H6 x' dx' a.cJ (gP (.ref nn) (.int (p1:Int)) (.int x) (.int y))):=dS nx ndx;exact k _ (kp1.trans (kp2.trans (kp3.trans (kp4.trans (kp5.trans (kp6.trans (.same s7))))))) (hR6.same s7) x' ⟨dx',nn,iH,s7 _ _ hnn6⟩
theorem jJ:aI ["reader","place","name"] ["reader"] (defScope rW):=by walk_at "s"
inductive qT (a:Adr) (vs:List V) (H:Hp) (Q:VK) (E:XK):Prop
 | mk (r tl txt p) (_:vs=[.ref r]) (_:bE a H r tl txt p) (_:txt[p]?≠some 97) (_:txt[p]?≠some 119) (_:Rs a H r tl txt E (lineIn (cur txt p)) (fun v=>v.2.at_-1) fun v H'=>(∃q,v.2=cur txt (q+1)∧txt[q]?=some LF)→∀x,fS a H' x v.1→Q (.ref x) H'):qT a vs H Q E
theorem b9z (T:Txt K mg a) (hn:Nr a):Ok P w K mg base 10 a.lW ["reader"] (qT a):=by
 have aJ := @dQ P w K mg base a T;have gL := @mV P w K mg base a T;have jI := @pQ P w K mg base a T hn.t;have yWz := @tXz P w K mg base a T;refine bD T.dEz jJ ?b ?l ?h;walk_at "o"
 ·obtain⟨r,tl,txt,p,rfl,_⟩:=h;rfl
 ·obtain⟨r,tl,txt,p,rfl,hR,ha,hw,k⟩:=h
  obtain⟨dx,h1,_⟩:=id hR
  refine⟨_,(aB (aU (pm (pv 0) T.aH T.aQ aJ (hr.mono (by decide)) passX (aA (aZ dN (gS T.xFz) bB) aD)))
   (aB (aP (i:=1) jJ.nd rfl (Or.inl rfl) (aM (pv 0) rfl))
   (aB (aP (i:=2) jJ.nd rfl (Or.inl rfl) (pc gL (hr.mono (by decide)) (by rfl) T.qC passX (aA (pv 0) aD)))
   (aB (aU (pm (pv 0) T.aH T.aQ aJ (hr.mono (by decide)) passX (aA bB aD)))
   (aE (aR (pn T.uCz yWz (hr.mono (by decide)) (by rfl) T.xRz passN (aA (pv 2) (aA (pv 1) (aA (pc jI (hr.mono (by decide)) (by rfl) T.sN passX (aA (pv 0) (aA bB aD))) aD)))))))))),?_⟩
  refine⟨_,rfl,r,dx,_,rfl,h1,rfl,_,_,rfl,rfl,(by decide +kernel),r,tl,txt,p,_,_,rfl,z_sum,(by show 4≤100;decide),hR,?_⟩
  by_cases hs:¬ txt[p]?=some 115
  ·rw [nFz ha hw hs] at k
   rw [kT,if_neg hs];exact fun H' d kp f=>k H' d kp f
  have hs:=Decidable.not_not.mp hs;rw [sJz hs,A8z] at k;refine Rs.split (fun e he H' d kp f=>?_) (fun c hc H1 kp1 hR1=>?_)
  ·rw [he] at k;exact k H' d kp f
  rw [hc] at k;have hcc:=dA hc;subst hcc;generalize p+List.length ([115,117,109,32]:Bytes)=p1 at *;dsimp only at k;have hR1:bE a H1 r tl txt p1:=hR1;obtain⟨dx1,g1,_⟩:=id hR1;refine⟨_,rfl,r,_,dx1,_,_,rfl,g1,T.aH,T.cD,nE _ _,_,rfl,r,tl,txt,p1,rfl,hR1,?_⟩;refine Rs.split (fun e he H' d kp f=>?_) (fun v hv H2 kp2 hR2 nn hnn=>?_)
  ·rw [he] at k;exact k H' d (kp1.trans kp) f
  obtain⟨n,c2⟩:=v;rw [hv] at k;obtain⟨rfl,_,_,_⟩:=gX hv;dsimp only at k hnn;have hR2:bE a H2 r tl txt (p1+n.length):=hR2;obtain⟨dx2,g2,_⟩:=id hR2;refine⟨_,rfl,r,dx2,_,rfl,g2,rfl,_,tl,txt,p1+n.length,_,[32],rfl,pF,(by show 1≤100;decide),hR2,?_⟩;refine Rs.split (fun e he H' d kp f=>?_) (fun c hc3 H3 kp3 hR3=>?_)
  ·rw [show blank (cur txt (p1+n.length))=_ from he] at k;exact k H' d (kp1.trans (kp2.trans kp)) f
  rw [show blank (cur txt (p1+n.length))=_ from hc3] at k;have hcc:=dA hc3;subst hcc;dsimp only at k;have hR3:bE a H3 r tl txt (p1+n.length+1):=hR3;refine⟨_,rfl,_,rfl,_,rfl,r,tl,txt,p1+n.length+1,_,[],rfl,(by rfl),(by show 0≤10;decide),⟨by simp,by simp⟩,hR3,?_⟩;refine Rs.split (fun e he H' d kp f=>?_) (fun v hv4 H4 kp4 hR4 lt _ hT=>?_)
  ·rw [show sumIn [] (cur txt (p1+n.length+List.length ([32]:Bytes)))=_ from he] at k;exact k H' d (kp1.trans (kp2.trans (kp3.trans kp))) f
  obtain⟨ts,k4,c4⟩:=v;rw [show sumIn [] (cur txt (p1+n.length+List.length ([32]:Bytes)))=_ from hv4] at k;obtain⟨e4,q4,_,hSE⟩:=tQ (by decide) hv4;obtain⟨rfl,hs4,hm4⟩:=hSE.beh;dsimp only at k hR4;have hk4:k4=none:=by
   cases k4 with
   | none=>rfl
   | some y=>have:=hm4 y rfl;cases this
  subst hk4;have hnn4:=kp4.tup (kp3.tup hnn);refine fun x' dx' nx ndx hne=>?_;refine⟨x',dx',_,_,_,rfl,aC,rfl,?_⟩;rw [kJ];have s7:Same H4 (mkH H4 x' dx' a.eD (oY (.ref nn) (.int (p1:Int)) (.ref lt))):=dS nx ndx;exact k _ (kp1.trans (kp2.trans (kp3.trans (kp4.trans (.same s7))))) (hR4.same s7) ⟨q4,rfl,hs4⟩ x' ⟨dx',nn,lt,iH,s7 _ _ hnn4,hT.same s7⟩
theorem z_tfs:cV (Str.ofString "tfs")=bV [116,102,115]:=by decide +kernel
theorem yYz:cV (Str.ofString "factor ")=bV (102::[97,99,116,111,114,32]):=by decide +kernel
theorem A7z:cV (Str.ofString "shift ")=bV (115::[104,105,102,116,32]):=by decide +kernel
theorem z_s:cV (Str.ofString "s")=bV [115]:=by decide +kernel
theorem z_e:cV (Str.ofString "")=bV []:=by decide +kernel
theorem cQ:aI ["reader","place","name","terms","turn","factors","shifts"] ["reader"] (defScope qX):=by walk_at "s"
inductive oB (a:Adr) (vs:List V) (H:Hp) (Q:VK) (E:XK):Prop
 | mk (r tl txt p) (_:vs=[.ref r]) (_:bE a H r tl txt p) (_:txt[p]?=some 119) (_:Rs a H r tl txt E (lineIn (cur txt p)) (fun v=>v.2.at_-1) fun v H'=>(∃q,v.2=cur txt (q+1)∧txt[q]?=some LF)→∀x,fS a H' x v.1→Q (.ref x) H'):oB a vs H Q E
theorem zK (T:Txt K mg a) (hn:Nr a):Ok P w K mg base 11 a.jR ["reader"] (oB a):=by
 have aJ := @dQ P w K mg base a T;have gL := @mV P w K mg base a T;have jI := @pQ P w K mg base a T hn.t;have qOz := @mWz P w K mg base a T;have yU := @gSz P w K mg base a T hn;have u2z := @pJz P w K mg base a T;refine bD T.bXz cQ ?b ?l ?h;walk_at "o"
 ·obtain⟨r,tl,txt,p,rfl,_⟩:=h;rfl
 ·obtain⟨r,tl,txt,p,rfl,hR,hw,k⟩:=h
  obtain⟨dx,h1,_⟩:=id hR
  refine⟨_,(aB (aU (pm (pv 0) T.aH T.aQ aJ (hr.mono (by decide)) passX (aA (aZ dN (gS T.bPz) bB) aD)))
   (aB (aP (i:=1) cQ.nd rfl (Or.inl rfl) (aM (pv 0) rfl))
   (aB (aP (i:=2) cQ.nd rfl (Or.inl rfl) (pc gL (hr.mono (by decide)) (by rfl) T.qC passX (aA (pv 0) aD)))
   (aB (aU (pm (pv 0) T.aH T.aQ aJ (hr.mono (by decide)) passX (aA bB aD)))
   (aB (aP (i:=3) cQ.nd rfl (Or.inl rfl) (pc jI (hr.mono (by decide)) (by rfl) T.sN passX (aA (pv 0) (aA bB aD))))
   (aB (aP (i:=4) cQ.nd rfl (Or.inl rfl) (pc qOz (hr.mono (by decide)) (by rfl) T.p1z passX (aA (pv 0) aD)))
   (aB (aP (i:=5) cQ.nd rfl (Or.inl rfl) (pc yU (hr.mono (by decide)) (by rfl) T.yL passX (aA (pv 0) (aA bB (aA bB (aA bB aD))))))
   (aB (aP (i:=6) cQ.nd rfl (Or.inl rfl) (pc yU (hr.mono (by decide)) (by rfl) T.yL passX (aA (pv 0) (aA bB (aA bB (aA bB aD))))))
   (aE (aR (pn T.pPz u2z (hr.mono (by decide)) (by rfl) T.uQz passN (aA (pv 2) (aA (pv 1) (aA (pv 3) (aA (pv 4) (aA (pv 5) (aA (pv 6) aD))))))))))))))))),?_⟩
  rw [nEz hw,vAz,vCz,ADz] at k;refine⟨_,rfl,r,dx,_,rfl,h1,rfl,_,_,rfl,rfl,(by decide +kernel),r,tl,txt,p,_,_,rfl,ACz,(by show 5≤100;decide),hR,?_⟩;refine Rs.split (fun e he H' d kp f=>?_) (fun c hc H1 kp1 hR1=>?_)
  ·rw [he] at k;exact k H' d kp f
  rw [hc] at k;have hcc:=dA hc;subst hcc;generalize p+List.length ([119,97,118,101,32]:Bytes)=p1 at *;dsimp only at k;have hR1:bE a H1 r tl txt p1:=hR1;obtain⟨dx1,g1,_⟩:=id hR1;refine⟨_,rfl,r,_,dx1,_,_,rfl,g1,T.aH,T.cD,nE _ _,_,rfl,r,tl,txt,p1,rfl,hR1,?_⟩;refine Rs.split (fun e he H' d kp f=>?_) (fun v hv H2 kp2 hR2 nn hnn=>?_)
  ·rw [he] at k;exact k H' d (kp1.trans kp) f
  obtain⟨n,c2⟩:=v;rw [hv] at k;obtain⟨rfl,_,_,_⟩:=gX hv;dsimp only at k hnn;have hR2:bE a H2 r tl txt (p1+n.length):=hR2;obtain⟨dx2,g2,_⟩:=id hR2;have kpa:=kp1.trans kp2;refine⟨_,rfl,r,dx2,_,rfl,g2,rfl,_,tl,txt,p1+n.length,_,[32],rfl,pF,(by show 1≤100;decide),hR2,?_⟩;refine Rs.split (fun e he H' d kp f=>?_) (fun c hc3 H3 kp3 hR3=>?_)
  ·rw [show blank (cur txt (p1+n.length))=_ from he] at k;exact k H' d (kpa.trans kp) f
  rw [show blank (cur txt (p1+n.length))=_ from hc3] at k;have hcc:=dA hc3;subst hcc;dsimp only at k;have hR3:bE a H3 r tl txt (p1+n.length+1):=hR3;have kpb:=kpa.trans kp3;refine⟨_,rfl,r,tl,txt,p1+n.length+1,_,[116,102,115],rfl,z_tfs,(by show 3≤10;decide),(by decide),hR3,?_⟩;refine Rs.split (fun e he H' d kp f=>?_) (fun v hv4 H4 kp4 hR4 lt _ hT=>?_)
  ·rw [show sumIn [116,102,115] (cur txt (p1+n.length+List.length ([32]:Bytes)))=_ from he] at k;exact k H' d (kpb.trans kp) f
  obtain⟨ts,k4,c4⟩:=v;rw [show sumIn [116,102,115] (cur txt (p1+n.length+List.length ([32]:Bytes)))=_ from hv4] at k;obtain⟨e4,q4,_,hSE⟩:=tQ (by decide) hv4;have A4:=hSE.at;have may4:=hSE.beh.ATz;have hs4:=A4.sign;obtain rfl:=A4.cur;dsimp only at k;have hR4:bE a H4 r tl txt q4:=hR4;have kpc:=kpb.trans kp4;refine⟨_,rfl,r,tl,txt,q4,k4,rfl,hR4,hs4,?_⟩;refine Rs.split (fun e he H' d kp f=>?_) (fun v hv5 H5 kp5 hR5=>?_)
  ·rw [he] at k;exact k H' d (kpc.trans kp) f
  obtain⟨t,k5,c5⟩:=v;rw [hv5] at k;obtain⟨e5,q5,A5,_,_,_,may5⟩:=dKz A4 may4 hv5;have hs5:=A5.sign;obtain rfl:=A5.cur;dsimp only at k hR5;have hR5:bE a H5 r tl txt q5:=hR5;have kpd:=kpc.trans kp5;refine⟨_,rfl,r,tl,txt,q5,_,[97,99,116,111,114,32],102,_,_,[115],k5,rfl,yYz,(by show 6≤10;decide),z_fs,z_s,(by show 1≤5;decide),(by decide),(by decide),(by decide),hR5,hs5,?_⟩;refine Rs.split (fun e he H' d kp f=>?_) (fun v hv6 H6 kp6 hR6 lf hlf=>?_)
  ·rw [he] at k;exact k H' d (kpd.trans kp) f
  obtain⟨fs,k6,c6⟩:=v;rw [hv6] at k;obtain⟨e6,q6,A6,P6,may6,_⟩:=oS (W:=ascii " factor ") (e0:=e5) (by rw [qZz];rfl) (by decide) 8 k5 [] (cur txt (q5+1)) e5 q5 A5 ⟨Rise.nil,fun x hx=>(by cases hx),Nat.zero_le _,Nat.le_refl _⟩ hv6 may5 rfl;have may6':∀x,k6=some x→x∈([115]:Bytes):=fun x hx=>by
   rcases may6 x hx with z | ⟨_,z⟩
   ·exact z
   ·exact absurd z (by decide)
  have hs6:=A6.sign;obtain rfl:=A6.cur;dsimp only at k hR6 hlf;have hR6:bE a H6 r tl txt q6:=hR6;have kpe:=kpd.trans kp6;refine⟨_,rfl,r,tl,txt,q6,_,[104,105,102,116,32],115,_,_,[],k6,rfl,A7z,(by show 5≤10;decide),z_s,z_e,(by show 0≤5;decide),(by decide),(by decide),(by decide),hR6,hs6,?_⟩;refine Rs.split (fun e he H' d kp f=>?_) (fun v hv7 H7 kp7 hR7 ls hls=>?_)
  ·rw [he] at k;exact k H' d (kpe.trans kp) f
  obtain⟨ss,k7,c7⟩:=v;rw [hv7] at k;obtain⟨e7,q7,A7,P7,may7,_⟩:=oS (W:=ascii " shift ") (e0:=e6) (by rw [vBz];rfl) (by decide) 8 k6 [] (cur txt (q6+1)) e6 q6 A6 ⟨Rise.nil,fun x hx=>(by cases hx),Nat.zero_le _,Nat.le_refl _⟩ hv7 may6' rfl;have hk7:k7=none:=by
   cases k7 with
   | none=>rfl
   | some x =>
    rcases may7 x rfl with z | ⟨_,z⟩
    ·cases z
    ·exact absurd z (by decide)
  subst hk7;have hs7:=A7.sign;obtain rfl:=A7.cur;dsimp only at k hR7 hls;have kpf:=kpe.trans kp7;have hnn7:=kp7.tup (kp6.tup (kp5.tup (kp4.tup (kp3.tup hnn))));have hT7:=((hT.kp kp5 hn.t).kp kp6 hn.t).kp kp7 hn.t;have hf7:=hlf.kp kp7 hn;refine⟨_,rfl,_,rfl,_,rfl,_,rfl,_,rfl,_,rfl,fun x' dx' nx ndx hne=>?_⟩;refine⟨x',dx',_,_,_,_,_,_,rfl,aC,rfl,?_⟩;rw [kJ];have s8:Same H7 (mkH H7 x' dx' a.cM (fD (.ref nn) (.int (p1:Int)) (.ref lt) (.int ((90*t:Nat):Int)) (.ref lf) (.ref ls))):=dS nx ndx;exact k _ (kpf.trans (.same s8)) (hR7.same s8) ⟨q7,rfl,hs7⟩ x' ⟨dx',nn,lt,lf,ls,iH,s8 _ _ hnn7,hT7.same s8,hf7.same s8,hls.same s8⟩
theorem z_a:cV (Str.ofString "a")=bV [97]:=by decide +kernel
theorem z_w:cV (Str.ofString "w")=bV [119]:=by decide +kernel
def bodyIn (txt:Bytes) (p:Nat):Except Nat (Line×Nat):=if txt[p]?=some 97 then angB txt p else match lineIn (cur txt p) with
 | .error e => .error e
 | .ok (l,c) => .ok (l,c.at_-1)
def LF2 (txt:Bytes) (p:Nat) (l:Line) (q:Nat):Prop:=txt[p]?=some 97∨(lineIn (cur txt p) = .ok (l,cur txt (q+1))∧txt[q]?=some LF)
theorem mAz:aI ["reader"] ["reader"] (defScope d9z):=by walk_at "s"
inductive aWz (a:Adr) (vs:List V) (H:Hp) (Q:VK) (E:XK):Prop
 | mk (r tl txt p) (_:vs=[.ref r]) (_:bE a H r tl txt p) (_:Rs a H r tl txt E (bodyIn txt p) (fun v=>v.2) fun v H'=>LF2 txt p v.1 v.2→∀x,fS a H' x v.1→Q (.ref x) H'):aWz a vs H Q E
theorem mZz (T:Txt K mg a) (hn:Nr a):Ok P w K mg base 12 a.wM ["reader"] (aWz a):=by
 have aS := @pP P w K mg base a T;have aMz := @yC P w K mg base a T;have cKz := @zK P w K mg base a T hn;have f5z := @b9z P w K mg base a T hn;refine bD T.oNz mAz ?b ?l ?h;walk_at "o"
 ·obtain⟨r,tl,txt,p,rfl,_⟩:=h;rfl
 ·obtain⟨r,tl,txt,p,rfl,hR,k⟩:=h
  obtain⟨dx,h1,_⟩:=id hR
  refine⟨_,(aB (dE (eO (pm (pv 0) T.aH T.aW aS (hr.mono (by decide)) passX (aA bB aD))) (aE (aR (pc aMz (hr.mono (by decide)) (by rfl) T.aBz passX (aA (pv 0) aD)))) bA)
   (aB (dE (eO (pm (pv 0) T.aH T.aW aS (hr.mono (by decide)) passX (aA bB aD))) (aE (aR (pc cKz (hr.mono (by decide)) (by rfl) T.cBz passX (aA (pv 0) aD)))) bA)
   (aE (aR (pc f5z (hr.mono (by decide)) (by rfl) T.fIz passX (aA (pv 0) aD)))))),?_⟩
  refine⟨_,rfl,r,dx,_,rfl,h1,rfl,_,tl,txt,p,_,[97],rfl,z_a,(by show 1≤100;decide),hR,fun H1 s1=>⟨_,rfl,?_⟩⟩;have hR1:=hR.same s1;obtain⟨dx1,g1,_⟩:=id hR1;have inz1:∀y:UInt8,inZ [y] txt p=decide (txt[p]?=some y):=fun y=>by
   cases hy:txt[p]? with
   | none=>rw [tT hy];rfl
   | some x =>
    rw [dX hy,has1]
    by_cases e:x=y
    ·subst e;simp
    ·rw [beq_eq_false_iff_ne.mpr e];exact (decide_eq_false fun z=>e (Option.some.inj z)).symm
  unfold bodyIn at k;rw [inz1];refine ite2 (fun ha=>?_) fun ha=>?_
  ·have ha:=of_decide_eq_true ha
   rw [if_pos ha] at k;refine⟨_,rfl,r,tl,txt,p,rfl,hR1,?_⟩;refine Rs.split (fun e he H' d kp f=>?_) (fun v hv H' kp hR' x hx=>?_)
   ·rw [he] at k;exact k H' d ((Kp.same s1).trans kp) f
   ·rw [hv] at k;exact k H' ((Kp.same s1).trans kp) hR' (.inl ha) x hx
  ·have ha:¬ txt[p]?=some 97:=fun z=>ha (decide_eq_true z)
   rw [if_neg ha] at k;refine⟨_,rfl,r,dx1,_,rfl,g1,rfl,_,tl,txt,p,_,[119],rfl,z_w,(by show 1≤100;decide),hR1,fun H2 s2=>⟨_,rfl,?_⟩⟩;have hR2:=hR1.same s2;rw [inz1];have s12:=s1.trans s2;have tail:Rs a H2 r tl txt E (lineIn (cur txt p)) (fun v=>v.2.at_-1) (fun v H'=>(∃q,v.2=cur txt (q+1)∧txt[q]?=some LF)→∀x,fS a H' x v.1→Q (.ref x) H'):=by
    refine Rs.split (fun e he H' d kp f=>?_) (fun v hv H' kp hR' hq x hx=>?_)
    ·rw [he] at k;exact k H' d ((Kp.same s12).trans kp) f
    ·obtain⟨l,c⟩:=v
     rw [hv] at k;obtain⟨q,rfl,hq2⟩:=hq;exact k H' ((Kp.same s12).trans kp) hR' (.inr ⟨hv,hq2⟩) x hx
   refine ite2 (fun hw=>?_) fun hw=>?_
   ·exact⟨_,rfl,r,tl,txt,p,rfl,hR2,of_decide_eq_true hw,tail⟩
   ·exact⟨_,rfl,r,tl,txt,p,rfl,hR2,ha,fun z=>hw (decide_eq_true z),tail⟩
theorem xAz {txt:Bytes} {p:Nat} {l:Line} {q:Nat} (hb:bodyIn txt p = .ok (l,q)) (h2:LF2 txt p l q):lineIn (cur txt p)=(match lit [LF] (cur txt q) with | .error e => .error e | .ok c => .ok (l,c)):=by
 rcases h2 with ha | ⟨h1,h2⟩
 ·unfold bodyIn at hb
  rw [if_pos ha] at hb;unfold angB at hb;rw [zX ha,iWz];cases e1:lit [97,110,103,108,101,32] (cur txt p) with
  | error x=>rw [e1] at hb;cases hb
  | ok c1 =>
   rw [e1] at hb;have hc1:=dA e1;subst hc1;dsimp only at hb ⊢;cases e2:nameIn (cur txt (p+List.length ([97,110,103,108,101,32]:Bytes))) with
   | error x=>rw [e2] at hb;cases hb
   | ok v2 =>
    obtain⟨n,c2⟩:=v2;rw [e2] at hb;obtain⟨hc2,_,_,_⟩:=gX e2;subst hc2;dsimp only at hb ⊢;generalize p+List.length ([97,110,103,108,101,32]:Bytes)+n.length=p2 at *;cases e3:blank (cur txt p2) with
    | error x=>rw [e3] at hb;cases hb
    | ok c3 =>
     rw [e3] at hb;have hc3:=dA (w:=[32]) e3;subst hc3;dsimp only at hb ⊢;cases e4:number (cur txt (p2+List.length ([32]:Bytes))) with
     | error x=>rw [e4] at hb;cases hb
     | ok v4 =>
      obtain⟨x,c4⟩:=v4;rw [e4] at hb;obtain⟨p4,_,_,_,hc4,_⟩:=lQ e4;subst hc4;dsimp only at hb ⊢;cases e5:blank (cur txt p4) with
      | error x=>rw [e5] at hb;cases hb
      | ok c5 =>
       rw [e5] at hb;have hc5:=dA (w:=[32]) e5;subst hc5;dsimp only at hb ⊢;cases e6:number (cur txt (p4+List.length ([32]:Bytes))) with
       | error x=>rw [e6] at hb;cases hb
       | ok v6 =>
        obtain⟨y,c6⟩:=v6;rw [e6] at hb;obtain⟨p6,_,_,_,hc6,_⟩:=lQ e6;subst hc6;dsimp only at hb ⊢;injection hb with hb
        injection hb with hb1 hb2
        subst hb1
        have:p6=q:=hb2
        subst this;cases lit [LF] (cur txt p6) <;> rfl
 ·rw [h1,kT,if_pos h2]
  rfl
theorem z3z {txt:Bytes} {p e:Nat} (hb:bodyIn txt p = .error e):lineIn (cur txt p) = .error e:=by
 unfold bodyIn at hb
 by_cases ha:txt[p]?=some 97
 ·rw [if_pos ha] at hb
  unfold angB at hb;rw [zX ha,iWz];cases e1:lit [97,110,103,108,101,32] (cur txt p) with
  | error x=>rw [e1] at hb;injection hb with hb;rw [hb]
  | ok c1 =>
   rw [e1] at hb;dsimp only at hb ⊢;cases e2:nameIn c1 with
   | error x=>rw [e2] at hb;injection hb with hb;rw [hb]
   | ok v2 =>
    obtain⟨n,c2⟩:=v2;rw [e2] at hb;dsimp only at hb ⊢;cases e3:blank c2 with
    | error x=>rw [e3] at hb;injection hb with hb;rw [hb]
    | ok c3 =>
     rw [e3] at hb;dsimp only at hb ⊢;cases e4:number c3 with
     | error x=>rw [e4] at hb;injection hb with hb;rw [hb]
     | ok v4 =>
      obtain⟨x,c4⟩:=v4;rw [e4] at hb;dsimp only at hb ⊢;cases e5:blank c4 with
      | error x=>rw [e5] at hb;injection hb with hb;rw [hb]
      | ok c5 =>
       rw [e5] at hb;dsimp only at hb ⊢;cases e6:number c5 with
       | error x=>rw [e6] at hb;injection hb with hb;rw [hb]
       | ok v6 =>
        rw [e6] at hb;cases hb
 ·rw [if_neg ha] at hb
  cases e1:lineIn (cur txt p) with
  | error x=>rw [e1] at hb;injection hb with hb;rw [hb]
  | ok v=>rw [e1] at hb;cases hb
theorem uFz {txt:Bytes} {p:Nat} {l:Line} {c:Cur} (h:lineIn (cur txt p) = .ok (l,c)):∃q,c=cur txt q∧p<q∧q≤txt.length:=by
 obtain⟨q,hc,hl,hq⟩:=wYz h;exact⟨q,hc,hl.lt,hq⟩
def gram (ls:List Line) (x:Except Nat (List Line)):Except Nat (List Line):=match x with | .error e => .error e | .ok r => .ok (ls++r)
inductive JL (a:Adr) (H:Hp) (r tl:Addr) (txt:Bytes) (l m:Nat) (σ : L2.St) (H':Hp):Prop
 | mk (as:List Addr) (ls:List Line) (q:Nat) (_ : σ = [some (.ref tl),some (.ref r),some (.ref l)]) (_:txt.length-q<m) (_:ls.length≤q) (_:H' l=some (.lst (as.map V.ref))) (_:(∀o,HLs a (upd H' l o) as ls)) (_:bE a H' r tl txt q) (_:grammar txt=gram ls (linesIn m (cur txt q))) (_:Kp a.aG H H'):JL a H r tl txt l m σ H'
theorem pJ:aI ["text","reader","lines"] ["text"] (defScope bBz):=by walk_at "s"
inductive xG (a:Adr) (vs:List V) (H:Hp) (Q:VK) (E:XK):Prop
 | mk (tl txt) (_:vs=[.ref tl]) (_:H tl=some (.lst (bV txt))) (_:txt.length≤16000) (_:(match grammar txt with | .ok ls=>∀H' l,Kp a.aG H H'→pE a H' l ls→Q (.ref l) H' | .error q=>∀H' d,Kp a.aG H H'→hJz H' d 1 q→E (.ref a.bG) (some d) H')):xG a vs H Q E
theorem jZz (T:Txt K mg a) (hn:Nr a):Ok P w K mg base 13 a.sY ["text"] (xG a):=by
 have mG := @m3z P w K mg base a T;have aJ := @dQ P w K mg base a T;have qPz := @mZz P w K mg base a T hn;have z9z := @wNz P w K mg base a T;refine bD T.lDz pJ ?b ?l ?h;walk_at "o"
 ·obtain⟨tl,txt,rfl,_⟩:=h;rfl
 ·obtain⟨tl,txt,rfl,htl,hlen,k⟩:=h
  refine⟨_,(aB (aP (i:=1) pJ.nd rfl (Or.inl rfl) (pn T.wRz z9z (hr.mono (by decide)) (by rfl) T.zVz passN (aA (pv 0) aD)))
   (aB (aP (i:=2) pJ.nd rfl (Or.inl rfl) (dM aD))
   (aB (mU PassesOwn.leaving (rWz (eO (pm0 (pv 1) T.aH T.eA mG (hr.mono (by decide)) passX)))
    (aB (aU (kP PySem.F.plainAttrs_list PySem.F.slot_list_append PySem.F.type_list_append hJ (pv 2) (aA (o9z (pc qPz (hr.mono (by decide)) (by rfl) T.p2z passX (aA (pv 1) aD))) aD)))
   (aE (aU (pm (pv 1) T.aH T.aQ aJ (hr.mono (by decide)) passX (aA bB aD))))))
   (aE (aR (pv 2)))))),?_⟩
  refine⟨_,rfl,fun r dx nr ndx hne=>⟨r,dx,_,rfl,aC,rfl,?_⟩⟩;rw [kJ];have s1:Same H (mkH H r dx a.aG (fPz (.ref tl))):=dS nr ndx;have hR1:bE a (mkH H r dx a.aG (fPz (.ref tl))) r tl txt 0:=⟨dx,iH,s1 _ _ htl,hlen,Nat.zero_le _⟩;refine⟨Nat.zero_le _,fun l hl=>?_⟩;obtain⟨nlr,nlt⟩:=hR1.nr hl;have hl0:H l=none:=s1.free hl;refine⟨JL a H r tl txt l,⟨txt.length+1,⟨[],[],0,rfl,by omega,Nat.zero_le _,aC,fun o => .nil,hR1.new hl,?_,(Kp.same s1).trans (.new hl)⟩⟩,?_⟩
  ·show linesIn (txt.length+1) (cur txt 0)=gram [] _
   cases linesIn (txt.length+1) (cur txt 0) <;> rfl
  rintro m σ H' ⟨as,ls,q,rfl,hm,hlq,hlH,hL,hR,hg,kp⟩;obtain⟨dx2,g2,_⟩:=id hR;refine⟨_,rfl,r,dx2,_,rfl,g2,rfl,r,tl,txt,q,rfl,hR,_,rfl,?_⟩;have hq:q≤txt.length:=let ⟨_,_,_,_,z⟩:=hR;z
  by_cases he:q=txt.length
  ·rw [decide_eq_true he]
   refine iteF ⟨_,rfl,?_⟩;rw [hg,eZz (by omega)] at k;have hL':=hL (.lst (as.map V.ref));have e:upd H' l (.lst (as.map V.ref))=H':=by
    funext b
    by_cases z:b=l
    ·rw [z,aC,hlH]
    ·rw [aO z]
   rw [e] at hL';have k':∀H'' l,Kp a.aG H H''→pE a H'' l (ls++[])→Q (.ref l) H'':=k;rw [List.append_nil] at k';exact k' H' l kp ⟨as,hlH,hL'⟩
  ·rw [decide_eq_false he]
   obtain⟨f,hf⟩:∃f,m=f+1:=⟨m-1,by omega⟩;subst hf;rw [bOz (by omega)] at hg;refine iteT ⟨fun σ' H3=>∃m',m'<f+1∧JL a H r tl txt l m' σ' H3,fun _ _ z=>z,?_⟩;refine⟨_,rfl,.inl ⟨rfl,_,SqL.of hlH⟩,l,_,hlH,trivial,fun od=>?_⟩;have hRl:bE a (upd H' l (.frz od (.lst (as.map V.ref)))) r tl txt q:=hR.put nlr nlt;have kpl:Kp a.aG H (upd H' l (.frz od (.lst (as.map V.ref)))):=kp.put hl0;refine⟨_,rfl,r,tl,txt,q,rfl,hRl,?_⟩;refine Rs.split (fun e he H'' d kp2 f2=>?_) (fun v hv H2 kp2 hR2 hLF x hx=>?_)
   ·rw [z3z he] at hg
    rw [hg] at k;exact k H'' d (kpl.trans kp2) f2
   ·obtain⟨ln,q2⟩:=v
    have hline:=xAz hv hLF;have hfr:H2 l=some (.frz od (.lst (as.map V.ref))):=kp2.keep l _ aC (by intro dx fs z;cases z);refine⟨hfr,l,_,_,rfl,rfl,aC,?_,?_⟩
    ·have h1:as.length=ls.length:=Paired.length (hL (.lst []))
     rw [List.length_map,h1,sizeLine_eq];omega
    ·rw [cE]
     have eas:as.map V.ref++[V.ref x]=(as++[x]).map V.ref:=by rw [List.map_append];rfl
     rw [eas];have hLn:∀o,HLs a (upd H2 l o) (as++[x]) (ls++[ln]):=fun o=>by
      have h1:HLs a H2 as ls:=Paired.mapP (hL (.frz od (.lst (as.map V.ref)))) fun _ _ z=>z.kp hn kp2;exact Paired.snoc' (Paired.mapP h1 fun _ _ z=>z.sn (kC.upd hfr)) (hx.sn (kC.upd hfr))
     have hR3:bE a (upd H2 l (.lst ((as++[x]).map V.ref))) r tl txt q2:=bE.put hR2 nlr nlt;have kp3:Kp a.aG H (upd H2 l (.lst ((as++[x]).map V.ref))):=(kpl.trans kp2).put hl0;obtain⟨dx3,g3,_⟩:=id hR3;refine⟨_,rfl,r,dx3,_,rfl,g3,rfl,_,tl,txt,q2,_,[10],rfl,z_lf,(by show 1≤100;decide),hR3,?_⟩;refine Rs.split (fun e he H'' d kp4 f4=>?_) (fun c hc H4 kp4 hR4=>?_)
     ·rw [hline,show lit [LF] (cur txt q2)=_ from he] at hg
      rw [hg] at k;exact k H'' d (kp3.trans kp4) f4
     ·rw [show lit [LF] (cur txt q2)=_ from hc] at hline
      have hcc:=dA hc;subst hcc;obtain⟨q3,hq3,hlt3,hle3⟩:=uFz hline;have hq3':=CXz hq3;have hq3'':q2+1=q3:=hq3';rw [hline] at hg;dsimp only at hg;refine⟨f,by omega,⟨as++[x],ls++[ln],q2+1,rfl,by omega,by rw [List.length_append];show _+1≤_;omega,kp4.lst aC,fun o=>?_,hR4,?_,kp3.trans kp4⟩⟩
      ·
       have hfl:∀o',HLs a (upd H2 l o') (as++[x]) (ls++[ln]):=hLn;have h5:HLs a (upd (upd H2 l (.lst ((as++[x]).map V.ref))) l (.frz od (.lst []))) (as++[x]) (ls++[ln]):=by rw [cE];exact hfl _
       refine Paired.mapP h5 fun y t z=>?_;have z2:fS a (upd H4 l (.frz od (.lst []))) y t:=by
        refine fS.kp hn z ⟨fun b o' hb n=>?_,fun b hb=>?_⟩
        ·by_cases hbl:b=l
         ·rw [hbl,aC] at hb;rw [hbl,aC];exact hb
         ·rw [aO hbl] at hb ⊢
          exact kp4.keep b o' hb n
        ·by_cases hbl:b=l
         ·rw [hbl,aC] at hb;cases hb
         ·rw [aO hbl] at hb ⊢
          exact kp4.free b hb
       have z3:=z2.sn (kC.upd (o:=o) aC)
       rwa [cE] at z3
      ·rw [hg]
       show gram ls (match linesIn f (cur txt (q2+1)) with | .error q => .error q | .ok r => .ok (ln::r))=gram (ls++[ln]) (linesIn f (cur txt (q2+1)));cases linesIn f (cur txt (q2+1)) with
       | error e=>rfl
       | ok r=>show Except.ok (ls++ln::r)=Except.ok (ls++[ln]++r);rw [List.append_assoc];rfl
theorem wD {K:W.Frag} {l:Addr} {xs:List V} {g:TG} {tt:TT} {te:TE} {vs:List Nat} {σ : L2.St} {R:Hp→Prop} {D:Addr} {H0:Hp} (Pv:Nat→Hp→Prop) (h0:Pv 0 (upd H0 D (.lst [])))
  (hl:∀i H,i≤xs.length→Pv i H→SqL K H l xs) (hend:∀H,Pv xs.length H→R H)
  (hstep:∀i x H,xs[i]?=some x→Pv i H→g x (wipe σ vs) H fun σ2 H2=>wipe σ2 vs=wipe σ vs∧tt σ2 H2 fun b H3 =>
   if b=true then te σ2 H3 fun y H4=>∃acc,H4 D=some (.lst acc)∧acc.length<sizeLine∧Pv (i+1) (upd H4 D (.lst (acc++[y]))) else Pv (i+1) H3) :
  ∃W:Nat→Nat→Hp→Prop,(∃m,W 0 m (upd H0 D (.lst [])))∧∀i m H,W i m H→
   ((Itl K l).stop i H∧R H)∨((Itl K l).go i H∧∃Nx:Hp→Prop,(∀H',Nx H'→∃m',m'<m∧W (i+1) m' H')∧∀x H',(Itl K l).yld i H x H'→g x (wipe σ vs) H' fun σ2 H2=>wipe σ2 vs=wipe σ vs∧tt σ2 H2 fun b H3 =>
    if b=true then te σ2 H3 fun y H4=>∃acc,H4 D=some (.lst acc)∧acc.length<sizeLine∧Nx (upd H4 D (.lst (acc++[y]))) else Nx H3):=by
 refine xCz (Q:=fun _ H=>R H) xs.length Pv h0 (fun H hp=>⟨⟨xs,hl _ H (Nat.le_refl _) hp,Nat.le_refl _⟩,hend H hp⟩) fun i H hi hp=>?_;have hq:=hl i H (Nat.le_of_lt hi) hp;refine⟨⟨xs,xs[i],hq,List.getElem?_eq_getElem hi⟩,fun x H' hy=>?_⟩;obtain⟨rfl,hy⟩:=hy;exact hstep i x _ (hy xs hq) hp
theorem eI {α : Type} {f : α→V} {l:List α} {i:Nat} {x:V} (h:(l.map f)[i]?=some x):∃y,l[i]?=some y∧f y=x:=by
 rw [List.getElem?_map] at h;exact Option.map_eq_some_iff.mp h
theorem Paired.at_ {α β : Type} {R : α→β→Prop}:∀{l:List α} {m:List β} {i:Nat} {x : α},Paired R l m→l[i]?=some x→∃y,m[i]?=some y∧R x y
 | _,_,_,_,.nil,h=>by simp at h
 | _,_,0,_,.cons r _,h=>by simp at h;subst h;exact⟨_,rfl,r⟩
 | _,_,i+1,x,.cons _ t,h=>by
  obtain⟨y,h1,h2⟩:=Paired.at_ (i:=i) (x:=x) t (by simpa using h);exact⟨y,by simpa using h1,h2⟩
theorem Paired.app {α β : Type} {R : α→β→Prop}:∀{l l2:List α} {m m2:List β},Paired R l m→Paired R l2 m2→Paired R (l++l2) (m++m2)
 | _,_,_,_,.nil,h=>h
 | _,_,_,_,.cons r t,h => .cons r (Paired.app t h)
theorem w_aa:decide (V.str (Str.ofString "angle")=V.str (Str.ofString "angle"))=true:=by decide +kernel
theorem w_aw:decide (V.str (Str.ofString "angle")=V.str (Str.ofString "wave"))=false:=by decide +kernel
theorem w_as:decide (V.str (Str.ofString "angle")=V.str (Str.ofString "sum"))=false:=by decide +kernel
theorem w_wa:decide (V.str (Str.ofString "wave")=V.str (Str.ofString "angle"))=false:=by decide +kernel
theorem DIz:decide (V.str (Str.ofString "wave")=V.str (Str.ofString "wave"))=true:=by decide +kernel
theorem w_ws:decide (V.str (Str.ofString "wave")=V.str (Str.ofString "sum"))=false:=by decide +kernel
theorem w_sa:decide (V.str (Str.ofString "sum")=V.str (Str.ofString "angle"))=false:=by decide +kernel
theorem DJz:decide (V.str (Str.ofString "sum")=V.str (Str.ofString "wave"))=false:=by decide +kernel
theorem w_ss:decide (V.str (Str.ofString "sum")=V.str (Str.ofString "sum"))=true:=by decide +kernel
theorem y0z {l:Line} (h:dW l):l.uses.length≤1000:=by
 cases h with
 | angle=>exact Nat.zero_le _
 | sum hn hs=>have:=hs.len.2;show List.length _≤_;exact Nat.le_trans this (by decide)
 | wave hn hs ht hf hg lf ls =>
  rename_i n p s t fs ss;show (s++(fs++ss).flatMap Part.sum).length≤1000;have key:∀ps:List Part,(∀x∈ps,vG x)→(ps.flatMap Part.sum).length≤8*ps.length:=fun ps=>by
   induction ps with
   | nil=>intro _;exact Nat.zero_le _
   | cons x r ih =>
    intro hx;rw [List.flatMap_cons,List.length_append,List.length_cons];have h1:=(hx x (List.mem_cons_self ..)).sum.len.2;have h2:=ih fun y hy=>hx y (List.mem_cons_of_mem _ hy);omega
  have h1:=key (fs++ss) fun x hx=>(List.mem_append.mp hx).elim (hf x) (hg x);rw [List.length_append] at h1 ⊢
  have:=hs.len.2
  omega
theorem vM:aI ["line","terms","swing"] ["line"] (defScope hTz):=by walk_at "s"
inductive dPz (a:Adr) (vs:List V) (H:Hp) (Q:VK) (_E:XK):Prop
 | mk (x ln) (_:vs=[.ref x]) (_:fS a H x ln) (_:dW ln) (_:∀H' l,Same H H'→eX a H' l ln.uses→Q (.ref l) H'):dPz a vs H Q _E
theorem pEz (T:Txt K mg a):Ok P w K mg base 1 a.aGz ["line"] (dPz a):=by
 refine bD T.tFz vM ?b ?l ?h;walk_at "o"
 ·obtain⟨x,ln,rfl,_⟩:=h;rfl
 ·obtain⟨x,ln,rfl,hL,hok,k⟩:=h
  have hu:=y0z hok
  refine⟨_,(aB (dE (aY gW (aM (pv 0) rfl) (gS T.sL) (nomark _)) (aE (aR (dM aD))) bA)
   (aB (aP (i:=1) vM.nd rfl (Or.inl rfl) (fX bTz (by rfl) T.pLz yMz (aA (aM (pv 0) rfl) aD)))
   (aB (dE (aY gW (aM (pv 0) rfl) (gS T.bPz) (nomark _)) (aE (lN PassesOwn.leaving rfl (eT (aZ eOz (aM (pv 0) rfl) (aM (pv 0) rfl))) (cZ (i:=2) vM.nd rfl (Or.inl rfl))
    (aE (aU (kP PySem.F.plainAttrs_list PySem.F.slot_list_extend PySem.F.type_list_extend dZ (pv 1) (aA (aM (pv 2) rfl) aD)))))) bA)
   (aE (aR (pv 1)))))),?_⟩
  cases ln with
  | angle n p ph rt =>
   obtain⟨dx,nn,h1,h2⟩:=hL;refine⟨_,rfl,x,_,dx,_,_,rfl,h1,T.bI,T.cO,dF _ _ _ _,rfl,_,rfl,?_⟩;rw [w_aa];refine iteT ⟨Nat.zero_le _,fun l hl=>k _ l (aF hl) ⟨[],aC,.nil⟩⟩
  | sum n p s =>
   obtain⟨dx,nn,lt,h1,h2,as,h3,h4⟩:=hL;refine⟨_,rfl,x,_,dx,_,_,rfl,h1,T.bO,T.bX,cI _ _ _,rfl,_,rfl,?_⟩;rw [w_sa];refine iteF ⟨_,rfl,x,_,dx,_,_,rfl,h1,T.bO,T.dY,eQ _ _ _,lt,_,rfl,.inl (SqL.of h3),fun l hl=>?_⟩;have s1:Same H (upd H l (.lst (as.map V.ref))):=aF hl;refine⟨_,rfl,x,_,dx,_,_,rfl,s1 _ _ h1,T.bO,T.bX,cI _ _ _,rfl,_,rfl,?_⟩;rw [DJz];exact iteF ⟨_,rfl,k _ l s1 ⟨as,aC,HTs.same h4 s1⟩⟩
  | wave n p s q fs ss =>
   obtain⟨dx,nn,lt,lf,ls,h1,h2,⟨as,h3,h4⟩,⟨bs,h5,h6⟩,⟨cs,h7,h8⟩⟩:=hL;refine⟨_,rfl,x,_,dx,_,_,rfl,h1,T.aV,T.bW,cP _ _ _ _ _ _,rfl,_,rfl,?_⟩;rw [w_wa];refine iteF ⟨_,rfl,x,_,dx,_,_,rfl,h1,T.aV,T.gD,iP _ _ _ _ _ _,lt,_,rfl,.inl (SqL.of h3),fun l hl=>?_⟩;have s1:Same H (upd H l (.lst (as.map V.ref))):=aF hl;refine⟨_,rfl,x,_,dx,_,_,rfl,s1 _ _ h1,T.aV,T.bW,cP _ _ _ _ _ _,rfl,_,rfl,?_⟩;rw [DIz];refine iteT ⟨_,rfl,x,_,dx,_,_,rfl,s1 _ _ h1,T.aV,T.dR,eM _ _ _ _ _ _,_,rfl,x,_,dx,_,_,rfl,s1 _ _ h1,T.aV,T.fM,iB _ _ _ _ _ _,lf,ls,_,_,rfl,rfl,s1 _ _ h5,s1 _ _ h7,?_,fun l2 hl2=>?_⟩
   ·cases hok with
    | wave hn hs ht hf hg lf ls =>
     rw [List.length_map,List.length_map,Paired.length h6,Paired.length h8,sizeLine_eq];omega
   have s2:Same H (upd (upd H l (.lst (as.map V.ref))) l2 (.lst (bs.map V.ref++cs.map V.ref))):=s1.trans (aF hl2);have nll:l≠l2:=fun z=>by rw [← z,aC] at hl2;cases hl2
   have hps:HSs a H (bs++cs) (fs++ss):=Paired.app h6 h8;have emap:bs.map V.ref++cs.map V.ref=(bs++cs).map V.ref:=by rw [List.map_append]
   have hl0:H l=none:=hl;have hl20:H l2=none:=s1.free hl2;refine⟨l2,rfl,⟨_,SqL.of aC⟩,iA (K:=K) (a:=l2) (xs:=(bs++cs).map V.ref) (fun i σ H'=>∃v:Option V,∃es:List Addr,σ = [some (.ref x),some (.ref l),v]∧Same H H'∧H' l2=some (.lst ((bs++cs).map V.ref))∧H' l=some (.lst (es.map V.ref))∧HTs a H es (s++((fs++ss).take i).flatMap Part.sum)) ⟨none,as,rfl,s2,by rw [aC,emap],by rw [aO nll,aC],by rw [List.take_zero,List.flatMap_nil,List.append_nil];exact h4⟩ (fun i σ H' _ ⟨_,_,_,_,z,_⟩=>SqL.of z) ?_ ?_⟩
   ·rintro i y σ H' hi ⟨v,es,rfl,sH,hz2,hzl,hes⟩
    obtain⟨b,hb,rfl⟩:=eI hi;obtain⟨pt,hpt,dxb,lb,g1,cs',g2,g3⟩:=Paired.at_ hps hb;refine⟨_,rfl,.inl ⟨rfl,_,SqL.of hzl⟩,_,rfl,b,_,dxb,_,_,rfl,sH _ _ g1,T.nF,T.kR,iZ _ _,l,lb,_,_,rfl,rfl,hzl,sH _ _ g2,?_,?_⟩
    ·have e1:es.length=(s++((fs++ss).take i).flatMap Part.sum).length:=Paired.length hes
     have e2:cs'.length=pt.sum.length:=Paired.length g3;have e3:(s++((fs++ss).take (i+1)).flatMap Part.sum).length≤(Line.wave n p s q fs ss).uses.length:=by
      show _≤(s++(fs++ss).flatMap Part.sum).length;have hsp:(fs++ss).flatMap Part.sum=((fs++ss).take (i+1)).flatMap Part.sum++((fs++ss).drop (i+1)).flatMap Part.sum:=by rw [← List.flatMap_append,List.take_append_drop]
      rw [hsp];simp only [List.length_append];omega
     rw [bQ hpt,List.flatMap_append] at e3;simp only [List.length_append,List.flatMap_cons,List.flatMap_nil,List.append_nil] at e1 e3;rw [List.length_map,List.length_map,sizeLine_eq];omega
    ·refine⟨some (.ref b),es++cs',rfl,fun c o hc=>?_,?_,?_,?_⟩
     ·rw [aO (aX hc hl0)];exact sH c o hc
     ·rw [aO (Ne.symm nll)];exact hz2
     ·rw [aC,List.map_append]
     ·rw [bQ hpt,List.flatMap_append,← List.append_assoc]
      refine Paired.app hes ?_;simp only [List.flatMap_cons,List.flatMap_nil,List.append_nil];exact g3
   ·rintro σ H' ⟨v,es,rfl,sH,hz2,hzl,hes⟩
    rw [List.length_map,Paired.length hps,List.take_length] at hes;exact⟨_,rfl,k H' l sH ⟨es,hzl,HTs.same hes sH⟩⟩
theorem jL {X:Cx} {K:W.Frag} {e:Expr} {f:Str} {pos:Pos} {ta:TE} (he:PE X e ta) (hb:attributeBase e f X.env (eval e X.env)=eval e X.env) (hK:X.K=K:=by rfl):PE X (.Attribute e f pos) (tFld K ta f):=by
 subst hK;exact aM he hb
theorem o0z:∀l:List Nat,(l.map fun (n:Nat)=>(n:Int)).sum=(sumNat l:Nat)
 | []=>rfl
 | x::r=>by
  rw [List.map_cons,List.sum_cons,o0z r];show (x:Int)+(sumNat r:Nat)=((x+sumNat r:Nat):Int);omega
theorem wWz {n:Bytes} {p:Nat} {s:List Term} {t:Nat} {fs ss:List Part} (h:dW (.wave n p s t fs ss)):fs.length≤8∧ss.length≤8∧s.length≤8:=by
 cases h with
 | wave hn hs ht hf hg lf ls=>exact⟨lf,ls,hs.len.2⟩
theorem zMz {n:Bytes} {p:Nat} {s:List Term} (h:dW (.sum n p s)):s.length≤8:=by
 cases h with
 | sum hn hs=>exact hs.len.2
theorem eZ:aI ["line","factor","term"] ["line"] (defScope uQ):=by walk_at "s"
inductive rT (a:Adr) (vs:List V) (H:Hp) (Q:VK) (_E:XK):Prop
 | mk (x ln) (_:vs=[.ref x]) (_:fS a H x ln) (_:dW ln) (_:∀H',Same H H'→Q (.bl (large ln)) H'):rT a vs H Q _E
theorem eUz (T:Txt K mg a):Ok P w K mg base 1 a.nX ["line"] (rT a):=by
 refine bD T.gEz eZ ?b ?l ?h;walk_at "o"
 ·obtain⟨x,ln,rfl,_⟩:=h;rfl
 ·obtain⟨x,ln,rfl,hL,hok,k⟩:=h
  refine⟨_,(aB (dE (aY gW (aM (pv 0) rfl) (gS T.bPz) (nomark _)) (aE (aR (pO BXz (bH (fWz rfl) (by rfl) T.eWz fZz (aA (jVz (own:=[("factor",1)]) rfl eZ.nd (eT (aM (pv 0) rfl)) (kW (by rfl)) (fun _ _ _ _ _=>(cZ (i:=1) eZ.nd rfl (Or.inl rfl))) (fun _ _ _ _ _=>sC) (fun _ _ _ _ _=>(bH qQ (by rfl) T.eXz f0z (aA (jL (K:=K) (pv 1) rfl) aD)))) aD)) (gI T.xIz) (nomark _)))) bA)
   (aB (dE (aY gW (aM (pv 0) rfl) (gS T.xFz) (nomark _)) (aE (aR (pO gQz (bH (fWz rfl) (by rfl) T.eWz fZz (aA (jVz (own:=[("term",2)]) rfl eZ.nd (eT (aM (pv 0) rfl)) (kW (by rfl)) (fun _ _ _ _ _=>(cZ (i:=2) eZ.nd rfl (Or.inl rfl))) (fun _ _ _ _ _=>sC) (fun _ _ _ _ _=>(jL (K:=K) (pv 2) rfl))) aD)) (gI T.j8z) (nomark _)))) bA)
   (aE (aR pe_bl)))),?_⟩
  cases ln with
  | angle n p ph rt =>
   obtain⟨dx,nn,h1,h2⟩:=hL;refine⟨_,rfl,x,_,dx,_,_,rfl,h1,T.bI,T.cO,dF _ _ _ _,rfl,_,rfl,?_⟩;rw [w_aw];refine iteF ⟨_,rfl,x,_,dx,_,_,rfl,h1,T.bI,T.cO,dF _ _ _ _,rfl,_,rfl,?_⟩;rw [w_as];exact iteF (k H (Same.refl _))
  | wave n p s q fs ss =>
   obtain⟨dx,nn,lt,lf,ls,h1,h2,_,⟨bs,h5,h6⟩,_⟩:=hL;refine⟨_,rfl,x,_,dx,_,_,rfl,h1,T.aV,T.bW,cP _ _ _ _ _ _,rfl,_,rfl,?_⟩;rw [DIz];refine iteT ⟨_,rfl,x,_,dx,_,_,rfl,h1,T.aV,T.dR,eM _ _ _ _ _ _,lf,rfl,⟨_,SqL.of h5⟩,fun D hD=>?_⟩;have hlb:bs.length=fs.length:=Paired.length h6;have hf8:=(wWz hok).1;refine wD (K:=K) (l:=lf) (xs:=bs.map V.ref) (g:=gName 1) (tt:=tYes) (vs:=[1]) (σ := [some (.ref x),none,none]) (fun i H'=>H'=upd H D (.lst (((fs.take i).map fun x:Part=>(x.number.natAbs:Nat)).map fun n:Nat=>V.int (n:Int)))) rfl (fun i H' _ e=>by subst e;exact SqL.of (aF hD _ _ h5)) (fun H' e=>?_) ?_
   ·subst e
    rw [List.length_map,hlb,List.take_length];refine⟨D,(fs.map fun x:Part=>(x.number.natAbs:Nat)).map fun n:Nat=>(n:Int),rfl,SqL.of (by rw [aC];simp only [List.map_map];rfl),_,_,rfl,rfl,?_⟩;rw [o0z]
    have:=k _ (aF (o := .lst ((fs.map fun x:Part=>(x.number.natAbs:Nat)).map fun n:Nat=>V.int (n:Int))) hD)
    have e2:large (.wave n p s q fs ss)=decide ((1000000000000:Int)≤(sumNat (fs.map fun x:Part=>x.number.natAbs):Nat)):=by
     show decide (10 ^ 12≤sumNat _)=_;rw [Bool.eq_iff_iff,decide_eq_true_eq,decide_eq_true_eq];constructor <;> intro z <;> omega
    rw [e2] at this;exact this
   ·rintro i y H' hi rfl
    obtain⟨b,hb,rfl⟩:=eI hi;obtain⟨pt,hpt,dxb,lb,g1,_⟩:=Paired.at_ h6 hb;refine⟨rfl,?_⟩;simp only [tYes,if_true];refine⟨_,rfl,b,_,dxb,_,_,rfl,aF hD _ _ g1,T.nF,T.iX,lU _ _,_,rfl,_,aC,?_,?_⟩
    ·rw [List.length_map,List.length_map,List.length_take,sizeLine_eq]
     omega
    ·rw [cE,bQ hpt,List.map_append,List.map_append]
     congr 3;show [V.int (if pt.number<0 then -pt.number else pt.number)]=[V.int ((pt.number.natAbs:Nat):Int)];congr 2;split <;> omega
  | sum n p s =>
   obtain⟨dx,nn,lt,h1,h2,as,h3,h4⟩:=hL;refine⟨_,rfl,x,_,dx,_,_,rfl,h1,T.bO,T.bX,cI _ _ _,rfl,_,rfl,?_⟩;rw [DJz];refine iteF ⟨_,rfl,x,_,dx,_,_,rfl,h1,T.bO,T.bX,cI _ _ _,rfl,_,rfl,?_⟩;rw [w_ss];refine iteT ⟨_,rfl,x,_,dx,_,_,rfl,h1,T.bO,T.dY,eQ _ _ _,lt,rfl,⟨_,SqL.of h3⟩,fun D hD=>?_⟩;have hlb:as.length=s.length:=Paired.length h4;have hs8:=zMz hok;refine wD (K:=K) (l:=lt) (xs:=as.map V.ref) (g:=gName 2) (tt:=tYes) (vs:=[2]) (σ := [some (.ref x),none,none]) (fun i H'=>H'=upd H D (.lst (((s.take i).map fun x:Term=>x.count).map fun n:Nat=>V.int (n:Int)))) rfl (fun i H' _ e=>by subst e;exact SqL.of (aF hD _ _ h3)) (fun H' e=>?_) ?_
   ·subst e
    rw [List.length_map,hlb,List.take_length];refine⟨D,(s.map fun x:Term=>x.count).map fun n:Nat=>(n:Int),rfl,SqL.of (by rw [aC];simp only [List.map_map];rfl),_,_,rfl,rfl,?_⟩;rw [o0z]
    have:=k _ (aF (o := .lst ((s.map fun x:Term=>x.count).map fun n:Nat=>V.int (n:Int))) hD)
    have e2:large (.sum n p s)=decide ((12:Int)<(sumNat (s.map fun x:Term=>x.count):Nat)):=by
     show decide (COUNTS<sumNat _)=_;rw [Bool.eq_iff_iff,decide_eq_true_eq,decide_eq_true_eq];show 12<_↔_;constructor <;> intro z <;> omega
    rw [e2] at this;exact this
   ·rintro i y H' hi rfl
    obtain⟨b,hb,rfl⟩:=eI hi;obtain⟨t,ht,dxb,nb,g1,_⟩:=Paired.at_ h4 hb;refine⟨rfl,?_⟩;simp only [tYes,if_true];refine⟨_,rfl,b,_,dxb,_,_,rfl,aF hD _ _ g1,T.fQ,T.jF,kU _ _ _ _,_,aC,?_,?_⟩
    ·rw [List.length_map,List.length_map,List.length_take,sizeLine_eq]
     omega
    ·rw [cE,bQ ht,List.map_append,List.map_append]
     rfl
def wordOf:Line→Str
 | .angle _ _ _ _=>Str.ofString "angle"
 | .wave _ _ _ _ _ _=>Str.ofString "wave"
 | .sum _ _ _=>Str.ofString "sum"
def wordsOf (b:List Line):List (List Key×V):=b.map fun l=>(kOf l.name,V.str (wordOf l))
theorem wZ:∀(b:List Line) (n:Bytes),valV (wordsOf b) (kOf n)=(b.find? fun l=>l.name == n).map fun l=>V.str (wordOf l)
 | [],_=>rfl
 | l::r,n=>by
  show valV ((kOf l.name,V.str (wordOf l))::wordsOf r) (kOf n)=_
  by_cases h:l.name=n
  ·rw [tI (show (kOf l.name,V.str (wordOf l)).1=kOf n by rw [h]),List.find?_cons,show (l.name == n)=true from beq_iff_eq.mpr h]
   rfl
  ·rw [tK (show ¬ (kOf l.name,V.str (wordOf l)).1=kOf n from fun z=>h (kBz z)),List.find?_cons,show (l.name == n)=false from beq_eq_false_iff_ne.mpr h]
   exact wZ r n
def needed (l:Line):Str:=match l with | .sum _ _ _=>Str.ofString "wave" | _=>Str.ofString "angle"
theorem z5z {b:List Line} {n:Bytes} (hn:(b.map Line.name).Nodup) (q:Line→Bool):(b.any fun y=>q y&&y.name == n)=((b.find? fun l=>l.name == n).map q).getD false:=by
 induction b with
 | nil=>rfl
 | cons l r ih =>
  have hn':=List.nodup_cons.mp (show (l.name::r.map Line.name).Nodup from hn);rw [List.any_cons,List.find?_cons]
  by_cases h:l.name=n
  ·rw [show (l.name == n)=true from beq_iff_eq.mpr h,Bool.and_true]
   have:(r.any fun y=>q y&&y.name == n)=false:=by
    refine List.any_eq_false.mpr fun y hy=>?_;intro z;have z2:=(Bool.and_eq_true_iff.mp z).2;exact hn'.1 (by rw [h,← (beq_iff_eq.mp z2)];exact List.mem_map_of_mem hy)
   rw [this,Bool.or_false];rfl
  ·rw [show (l.name == n)=false from beq_eq_false_iff_ne.mpr h,Bool.and_false,Bool.false_or]
   exact ih hn'.2
theorem xTz {b:List Line} {l:Line} {x:Term} (hn:(b.map Line.name).Nodup) (hu:x∈l.uses):(!decide ((valV (wordsOf b) (kOf x.name)).getD .non=V.str (needed l))) = !found b l x:=by
 congr 1;unfold found;rw [z5z hn,wZ];cases b.find? (fun l=>l.name == x.name) with
 | none=>rfl
 | some y =>
  show decide (V.str (wordOf y)=V.str (needed l))=(if l.isWave=true then y.isAngle else y.isWave);cases l with
  | angle=>cases hu
  | wave=>cases y <;> first | exact w_aa | exact w_wa | exact w_sa
  | sum=>cases y <;> first | exact w_aw | exact DIz | exact DJz
theorem v1z {b:List Line} {n:Bytes} {z:Str}:scal ((valV (wordsOf b) (kOf n)).getD .non) (.str z)=true:=by
 rw [wZ];cases b.find? (fun l=>l.name == n) <;> rfl
theorem nO:aI ["line","words","needed","term"] ["line","words"] (defScope xP):=by walk_at "s"
inductive uI (a:Adr) (vs:List V) (H:Hp) (Q:VK) (E:XK):Prop
 | mk (x ln wd b) (_:vs=[.ref x,.ref wd]) (_:fS a H x ln) (_:dW ln) (_:H wd=some (.dT (wordsOf b))) (_:(b.map Line.name).Nodup) (_:(match ln.uses.find? (fun t => !found b ln t) with | none=>∀H',Same H H'→Q .non H' | some t=>∀H' d,Same H H'→hJz H' d 3 t.at_→E (.ref a.bG) (some d) H')):uI a vs H Q E
theorem nWz {α : Type} {q : α→Bool}:∀{l:List α} {i:Nat} {x : α},l[i]?=some x→(l.take i).all (fun y => !q y)=true→q x=true→l.find? q=some x
 | [],_,_,h,_,_=>by simp at h
 | y::r,0,x,h,_,hq=>by
  have:y=x:=by simpa using h
  subst this;rw [List.find?_cons,hq]
 | y::r,i+1,x,h,ha,hq=>by
  rw [List.take_succ_cons,List.all_cons,Bool.and_eq_true] at ha;rw [List.find?_cons,show q y=false by simpa using ha.1];exact nWz (by simpa using h) ha.2 hq
theorem z0z {α : Type} {q : α→Bool} {l:List α} (h:l.all (fun y => !q y)=true):l.find? q=none:=by
 rw [List.find?_eq_none];intro x hx
 have:=List.all_eq_true.mp h x hx
 simpa using this
theorem gUz (T:Txt K mg a):Ok P w K mg base 3 a.qM ["line","words"] (uI a):=by
 have uZz := @pEz P w K mg base a T;refine bD T.i2z nO ?b ?l ?h;walk_at "o"
 ·obtain⟨x,ln,wd,b,rfl,_⟩:=h;rfl
 ·obtain⟨x,ln,wd,b,rfl,hL,hok,hwd,hnd,k⟩:=h
  refine⟨_,(aB (aP (i:=2) nO.nd rfl (Or.inl rfl) (gU (aY gW (aM (pv 0) rfl) (gS T.xFz) (nomark _)) (gS T.bPz) (gS T.sL)))
   (aE (lN PassesOwn.leaving rfl (eT (pc uZz (hr.mono (by decide)) (by rfl) T.uNz passX (aA (pv 0) aD))) (cZ (i:=3) nO.nd rfl (Or.inl rfl))
    (aE (dE (aY BWz (zBz (fFz hr) (pv 1) (aM (pv 3) rfl) ⟨rfl,rfl,rfl,rfl⟩) (pv 2) (nomark _)) (aE (xY T (hr.mono (by decide)) rfl rfl raiseX (gI T.gXz) (aM (pv 3) rfl))) bA))))),?_⟩
  refine lE (fun σ' H1=>H1=H∧σ'=[some (.ref x),some (.ref wd),some (.str (needed ln)),none]) (fun N hN=>?_) ?_
  ·cases ln with
   | angle n p ph rt =>
    obtain⟨dx,nn,h1,h2⟩:=hL;refine⟨_,rfl,x,_,dx,_,_,rfl,h1,T.bI,T.cO,dF _ _ _ _,rfl,_,rfl,?_⟩;rw [w_as];exact iteF (hN _ _ ⟨rfl,rfl⟩)
   | wave n p s q fs ss =>
    obtain⟨dx,nn,lt,lf,ls,h1,_⟩:=hL;refine⟨_,rfl,x,_,dx,_,_,rfl,h1,T.aV,T.bW,cP _ _ _ _ _ _,rfl,_,rfl,?_⟩;rw [w_ws];exact iteF (hN _ _ ⟨rfl,rfl⟩)
   | sum n p s =>
    obtain⟨dx,nn,lt,h1,_⟩:=hL;refine⟨_,rfl,x,_,dx,_,_,rfl,h1,T.bO,T.bX,cI _ _ _,rfl,_,rfl,?_⟩;rw [w_ss];exact iteT (hN _ _ ⟨rfl,rfl⟩)
  ·rintro σ' H1 ⟨rfl,rfl⟩
   refine⟨_,rfl,x,ln,rfl,hL,hok,fun H2 l s2 hT=>?_⟩;obtain⟨as,hl,hts⟩:=hT;refine⟨l,rfl,⟨_,SqL.of hl⟩,iA (K:=K) (a:=l) (xs:=as.map V.ref) (fun i σ H'=>∃v:Option V,H'=H2∧σ = [some (.ref x),some (.ref wd),some (.str (needed ln)),v]∧(ln.uses.take i).all (fun t => !(!found b ln t))=true) ⟨none,rfl,rfl,by rw [List.take_zero];rfl⟩ (fun i σ H' _ ⟨_,e,_⟩=>by subst e;exact SqL.of hl) ?_ ?_⟩
   ·rintro i y σ H' hi ⟨v,rfl,rfl,hall⟩
    obtain⟨c,hc,rfl⟩:=eI hi;obtain⟨t,ht,dxc,nc,g1,g2⟩:=Paired.at_ hts hc;have hwd2:=s2 _ _ hwd;have hmem:t∈ln.uses:=List.mem_of_getElem? ht;refine⟨_,rfl,wd,rfl,.inr ⟨_,.inl hwd2⟩,_,rfl,c,_,dxc,_,_,rfl,g1,T.fQ,T.iN,jG _ _ _ _,_,DGet.t (k:=kOf t.name) hwd2 (by rw [vF];exact g2),_,rfl,v1z,_,rfl,?_⟩;rw [xTz hnd hmem];cases hf:found b ln t with
    | true =>
     refine iteF ⟨_,rfl,rfl,?_⟩;rw [bQ ht,List.all_append,hall];simp [hf]
    | false =>
     refine iteT ?_;have hfind:ln.uses.find? (fun t => !found b ln t)=some t:=nWz ht hall (by rw [hf];rfl);rw [hfind] at k;exact⟨_,rfl,c,_,dxc,_,_,rfl,g1,T.fQ,T.bMz,kGz _ _ _ _,sV T fun H' d s f=>k H' d (s2.trans s) f⟩
   ·rintro σ H' ⟨v,rfl,rfl,hall⟩
    rw [List.length_map,Paired.length hts,List.take_length] at hall;rw [z0z hall] at k;exact k _ s2
theorem fS.acc {H:Hp} {x:Addr} {ln:Line} (T:Txt K mg a) (h:fS a H x ln):∃C dx fs nn,H x=some (.ins C dx fs)∧Cls K C∧bF K C "word"∧bF K C "name"∧bF K C "place"∧fs.lookup ("word" : Str)=some (.str (wordOf ln))∧fs.lookup ("name" : Str)=some (.ref nn)∧fs.lookup ("place" : Str)=some (.int (ln.place:Int))∧H nn=some (.tup (bV ln.name)):=by
 cases ln with
 | angle n p ph rt =>
  obtain⟨dx,nn,h1,h2⟩:=h;exact⟨_,dx,_,nn,h1,T.bI,T.cO,T.rJ,T.oW,rfl,rfl,rfl,h2⟩
 | wave n p s q fs ss =>
  obtain⟨dx,nn,lt,lf,ls,h1,h2,_⟩:=h;exact⟨_,dx,_,nn,h1,T.aV,T.bW,T.sG,T.rH,rfl,rfl,rfl,h2⟩
 | sum n p s =>
  obtain⟨dx,nn,lt,h1,h2,_⟩:=h;exact⟨_,dx,_,nn,h1,T.bO,T.bX,T.uY,T.sI,rfl,rfl,rfl,h2⟩
def nA (b:List Line):Nat:=(b.filter Line.isAngle).length
def nW (b:List Line):Nat:=(b.filter fun (x:Line) => !x.isAngle).length
theorem j3z (b:List Line) (l:Line):nA (b++[l])=nA b+(if l.isAngle=true then 1 else 0):=by
 unfold nA;rw [List.filter_append,List.length_append];cases h:l.isAngle <;> simp [h]
theorem pOz (b:List Line) (l:Line):nW (b++[l])=nW b+(if l.isAngle=true then 0 else 1):=by
 unfold nW;rw [List.filter_append,List.length_append];cases h:l.isAngle <;> simp [h]
theorem sLz (l:Line):decide (V.str (wordOf l)=V.str (Str.ofString "angle"))=l.isAngle:=by
 cases l
 ·exact w_aa
 ·exact w_wa
 ·exact w_sa
theorem ySz (b:List Line) (n:Bytes):(valV (wordsOf b) (kOf n)).isSome=b.any fun x=>x.name == n:=by
 rw [wZ,Option.isSome_map]
 induction b with
 | nil=>rfl
 | cons l r ih =>
  rw [List.find?_cons,List.any_cons];cases h:(l.name == n)
  ·rw [Bool.false_or];exact ih
  ·rfl
theorem pL:aI ["lines","words","angles","waves","line"] ["lines"] (defScope o8z):=by walk_at "s"
inductive rLz (a:Adr) (vs:List V) (H:Hp) (Q:VK) (E:XK):Prop
 | mk (l ls) (_:vs=[.ref l]) (_:pE a H l ls) (_:(∀ln∈ls,dW ln)) (_:ls.length≤16000) (_:(match scan [] ls with | none=>∀H',Same H H'→Q .non H' | some f=>∀H' d,Same H H'→hJz H' d f.1 f.2→E (.ref a.bG) (some d) H')):rLz a vs H Q E
theorem zDz (T:Txt K mg a):Ok P w K mg base 5 a.kJz ["lines"] (rLz a):=by
 have hHz := @eUz P w K mg base a T;have kRz := @gUz P w K mg base a T;refine bD T.BAz pL ?b ?l ?h;walk_at "o"
 ·obtain⟨l,ls,rfl,_⟩:=h;rfl
 ·obtain⟨l,ls,rfl,⟨as,hl,hLs⟩,hoks,hlen,k⟩:=h
  refine⟨_,(aB (aP (i:=1) pL.nd rfl (Or.inl rfl) jWz)
   (aB (aP (i:=2) pL.nd rfl (Or.inl rfl) aT)
   (aB (aP (i:=3) pL.nd rfl (Or.inl rfl) aT)
   (aE (lN PassesOwn.leaving rfl (eT (pv 0)) (cZ (i:=4) pL.nd rfl (Or.inl rfl))
    (aB (dE (aY gW (aM (pv 4) rfl) (gS T.sL) (nomark _)) (aE (aP (i:=2) pL.nd rfl (Or.inl rfl) (aZ gN (pv 2) aT))) (aE (aP (i:=3) pL.nd rfl (Or.inl rfl) (aZ gN (pv 3) aT))))
   (aB (dE (AJz (pc_din (fFz hr) (aM (pv 4) rfl) (pv 1))) (aE (xY T (hr.mono (by decide)) rfl rfl raiseX (gI T.nHz) (aM (pv 4) rfl))) bA)
   (aB (dE (PW.pt (BMz (aY gQz (pv 2) (gI T.j9z) (nomark _)) (v9z (aY gQz (pv 3) (gI T.nIz) (nomark _))))) (aE (xY T (hr.mono (by decide)) rfl rfl raiseX (gI T.uHz) (aM (pv 4) rfl))) bA)
   (aB (dE (eO (pc hHz (hr.mono (by decide)) (by rfl) T.hBz passX (aA (pv 4) aD))) (aE (xY T (hr.mono (by decide)) rfl rfl raiseX (gI T.pWz) (aM (pv 4) rfl))) bA)
   (aB (aU (pc kRz (hr.mono (by decide)) (by rfl) T.kEz passX (aA (pv 4) (aA (pv 1) aD))))
   (aE (jRz (fFz hr) (pv 1) (aM (pv 4) rfl) (aM (pv 4) rfl) rfl)))))))))))),?_⟩
  intro wd hwd;have hlb:as.length=ls.length:=Paired.length hLs;refine⟨_,rfl,l,rfl,⟨_,SqL.of (aF hwd _ _ hl)⟩,iA (K:=K) (a:=l) (xs:=as.map V.ref) (fun i σ H'=>∃v:Option V,σ = [some (.ref l),some (.ref wd),some (.int (nA (ls.take i):Nat)),some (.int (nW (ls.take i):Nat)),v]∧Same H H'∧H' wd=some (.dT (wordsOf (ls.take i)))∧cJz (ls.take i)∧scan [] ls=scan (ls.take i) (ls.drop i)) ⟨none,rfl,aF hwd,aC,cJz.nil,rfl⟩ (fun i σ H' _ ⟨_,_,s,_⟩=>SqL.of (s _ _ hl)) ?_ ?_⟩
  ·rintro i y σ H' hi ⟨v,rfl,sH,hwd',hRt,hsc⟩
   obtain⟨x,hx,rfl⟩:=eI hi;obtain⟨ln,hln,hL⟩:=Paired.at_ hLs hx;have hok:=hoks ln (List.mem_of_getElem? hln);have hdrop:ls.drop i=ln::ls.drop (i+1):=by
    obtain⟨hlt,he⟩:=List.getElem?_eq_some_iff.mp hln;rw [List.drop_eq_getElem_cons hlt,he]
   have htake:=bQ hln;rw [hdrop] at hsc;have hsc':scan [] ls=(match firstWrong (ls.take i) ln with | some f=>some f | none=>scan (ls.take i++[ln]) (ls.drop (i+1))):=hsc;have hlsi:(ls.take i).length≤16000:=by rw [List.length_take];omega
   generalize ls.take i=b at *;obtain⟨C,dx,fs,nn,g1,gC,gw,gn,gp,fw,fn,fp,hnn⟩:=fS.acc T hL;refine lE (fun σ' H2=>H2=H'∧σ'=[some (.ref l),some (.ref wd),some (.int (nA (b++[ln]):Nat)),some (.int (nW (b++[ln]):Nat)),some (.ref x)]) (fun N hN=>?_) ?_
   ·refine⟨_,rfl,x,C,dx,fs,_,rfl,sH _ _ g1,gC,gw,fw,rfl,_,rfl,?_⟩
    rw [sLz];cases hA:ln.isAngle with
    | true =>
     refine iteT ⟨_,rfl,_,_,rfl,rfl,hN _ _ ⟨rfl,?_⟩⟩;rw [j3z,pOz,hA,if_pos rfl,if_pos rfl];rfl
    | false =>
     refine iteF ⟨_,rfl,_,_,rfl,rfl,hN _ _ ⟨rfl,?_⟩⟩;rw [j3z,pOz,hA,if_neg Bool.false_ne_true,if_neg Bool.false_ne_true];rfl
   ·rintro σ' H2 ⟨rfl,rfl⟩
    unfold firstWrong at hsc';refine⟨_,rfl,x,C,dx,fs,_,rfl,sH _ _ g1,gC,gn,fn,_,rfl,wd,_,rfl,DGet.t (k:=kOf ln.name) hwd' (by rw [vF];exact sH _ _ hnn),_,rfl,?_⟩;rw [ySz];cases h2:b.any (fun x=>x.name == ln.name) with
    | true =>
     rw [if_pos h2] at hsc';rw [hsc'] at k;exact iteT ⟨_,rfl,x,C,dx,fs,_,rfl,sH _ _ g1,gC,gp,fp,sV T fun H3 d s f=>k H3 d (sH.trans s) f⟩
    | false =>
     rw [if_neg (by rw [h2];exact Bool.false_ne_true)] at hsc';refine iteF ?_;dsimp only [tNext];have hmany:(decide ((16:Int)<(nA (b++[ln]):Nat))||decide ((128:Int)<(nW (b++[ln]):Nat)))=many b ln:=by
      have hA16:nA b≤16:=hRt.angles;have hW128:nW b≤128:=hRt.waves;unfold many;rw [j3z,pOz];cases hA:ln.isAngle with
      | true =>
       rw [if_pos rfl,if_pos rfl,if_pos rfl];show _=decide (16≤nA b);rw [Bool.eq_iff_iff,Bool.or_eq_true,decide_eq_true_eq,decide_eq_true_eq,decide_eq_true_eq];omega
      | false =>
       rw [if_neg Bool.false_ne_true,if_neg Bool.false_ne_true,if_neg Bool.false_ne_true];show _=decide (128≤nW b);rw [Bool.eq_iff_iff,Bool.or_eq_true,decide_eq_true_eq,decide_eq_true_eq,decide_eq_true_eq];omega
     refine lE (fun σ' H3=>many b ln=false∧H3=H2∧σ'=[some (.ref l),some (.ref wd),some (.int (nA (b++[ln]):Nat)),some (.int (nW (b++[ln]):Nat)),some (.ref x)]) (fun N hN=>?_) ?_
     ·have flt:many b ln=true→kVz (cxOf (CXr P w) P w K mg base ["lines","words","angles","waves","line"] "judge" (defScope o8z) a.kJz cdv A outer s H E) a E [.int 4,.int (ln.place:Int)] H2:=fun h4=>by
       rw [if_pos h4] at hsc';rw [hsc'] at k;exact sV T fun H3 d s f=>k H3 d (sH.trans s) f
      refine⟨_,rfl,_,_,rfl,rfl,_,rfl,?_⟩;cases c1:decide ((16:Int)<(nA (b++[ln]):Nat)) with
      | true=>exact iteT (iteT ⟨_,rfl,x,C,dx,fs,_,rfl,sH _ _ g1,gC,gp,fp,flt (by rw [← hmany,c1];rfl)⟩)
      | false =>
       refine iteF ⟨_,rfl,_,_,rfl,rfl,_,rfl,?_⟩;cases c2:decide ((128:Int)<(nW (b++[ln]):Nat)) with
       | true=>exact iteT ⟨_,rfl,x,C,dx,fs,_,rfl,sH _ _ g1,gC,gp,fp,flt (by rw [← hmany,c1,c2];rfl)⟩
       | false=>exact iteF (hN _ _ ⟨by rw [← hmany,c1,c2];rfl,rfl,rfl⟩)
     ·rintro σ' H3 ⟨h4,rfl,rfl⟩
      rw [if_neg (by rw [h4];exact Bool.false_ne_true)] at hsc';refine lE (fun σ' H4=>large ln=false∧Same H3 H4∧σ'=[some (.ref l),some (.ref wd),some (.int (nA (b++[ln]):Nat)),some (.int (nW (b++[ln]):Nat)),some (.ref x)]) (fun N hN=>?_) ?_
      ·refine⟨_,rfl,x,ln,rfl,hL.same sH,hok,fun H4 s4=>⟨_,rfl,?_⟩⟩
       cases h5:large ln with
       | true =>
        rw [if_pos h5] at hsc';rw [hsc'] at k;exact iteT ⟨_,rfl,x,C,dx,fs,_,rfl,s4 _ _ (sH _ _ g1),gC,gp,fp,sV T fun H3 d s f=>k H3 d (sH.trans (s4.trans s)) f⟩
       | false=>exact iteF (hN _ _ ⟨h5,s4,rfl⟩)
      ·rintro σ' H4 ⟨h5,s4,rfl⟩
       rw [if_neg (by rw [h5];exact Bool.false_ne_true)] at hsc';have sH4:=sH.trans s4;refine⟨_,rfl,_,rfl,x,ln,wd,b,rfl,hL.same sH4,hok,s4 _ _ hwd',hRt.names,?_⟩;cases h3:ln.uses.find? (fun t => !found b ln t) with
       | some t =>
        rw [h3] at hsc';rw [show scan [] ls=some (3,t.at_) from hsc'] at k;exact fun H5 d s f=>k H5 d (sH4.trans s) f
       | none =>
        rw [h3] at hsc';refine fun H5 s5=>?_;have sH5:=sH4.trans s5;have hwd5:=s5 _ _ (s4 _ _ hwd');have hvn:valV (wordsOf b) (kOf ln.name)=none:=by
         have:=ySz b ln.name
         rw [h2] at this;cases z:valV (wordsOf b) (kOf ln.name) with
         | none=>rfl
         | some _=>rw [z] at this;cases this
        have hb1:b.length≤16000:=hlsi;refine⟨_,rfl,x,C,dx,fs,_,rfl,sH5 _ _ g1,gC,gw,fw,_,rfl,_,rfl,x,C,dx,fs,_,rfl,sH5 _ _ g1,gC,gn,fn,wd,_,rfl,DPut.t (k:=kOf ln.name) hwd5 (by rw [vF];exact sH5 _ _ hnn) (by unfold wordsOf;rw [List.length_map,sizeLine_eq];omega),?_⟩;refine⟨some (.ref x),by rw [htake],fun c o hc=>?_,?_,?_,?_⟩
        ·rw [aO (aX hc hwd)];exact sH5 c o hc
        ·rw [aC,jQz _ hvn,htake]
         unfold wordsOf;rw [List.map_append];rfl
        ·rw [htake]
         refine hRt.snoc ?_;unfold firstWrong;rw [if_neg (by rw [h2];exact Bool.false_ne_true),if_neg (by rw [h4];exact Bool.false_ne_true),if_neg (by rw [h5];exact Bool.false_ne_true),h3];rfl
        ·rw [htake]
         exact hsc'
  ·rintro σ H' ⟨v,rfl,sH,hwd',hRt,hsc⟩
   rw [List.length_map,hlb,List.drop_length] at hsc;rw [show scan [] ls=none from hsc] at k;exact k H' sH
theorem y3z {α : Type} (p : α→Bool) (l:List α):l.take (l.length-(l.reverse.takeWhile p).length)=(l.reverse.dropWhile p).reverse:=by
 generalize hu:(l.reverse.dropWhile p).reverse=u;generalize hv:(l.reverse.takeWhile p)=v;have h:l=u++v.reverse:=by
  rw [← hu,← hv,← List.reverse_append,List.takeWhile_append_dropWhile,List.reverse_reverse]
 have hl:l.length=u.length+v.length:=by
  rw [h,List.length_append,List.length_reverse]
 have e:l.length-v.length=u.length:=by omega
 rw [e,h,List.take_left]
theorem u5z:(Str.ofString "0").cps.contains=fun x:Nat=>x == 48:=by
 funext c
 have:(Str.ofString "0").cps = #[48]:=by decide +kernel
 rw [this];simp [Array.contains]
theorem rstrip0 (x:Str):(Txt.rstripChars x (Str.ofString "0")).cps.toList=shornN x.cps.toList:=by
 unfold Txt.rstripChars Txt.stripBy;rw [u5z];have hx:x.length=x.cps.toList.length:=rfl;have key:=y3z (fun x:Nat=>x == 48) x.cps.toList;unfold shornN;rw [← key];split
 ·rename_i h
  have h2:x.length-(x.cps.toList.reverse.takeWhile fun x:Nat=>x == 48).length=x.length:=by
   have h3:=(Bool.and_eq_true _ _ ▸ h:_∧_).2;exact eq_of_beq h3
  rw [← hx,h2,hx,List.take_length]
 ·show (x.cps.extract 0 (x.length-(x.cps.toList.reverse.takeWhile fun x:Nat=>x == 48).length)).toList=_
  rw [Array.toList_extract,hx]
  simp
theorem u4z (n:Nat):(Txt.zfill (Str.ofString (toString (n:Int))) 12).cps.toList=List.replicate (12-(TL.numL n).length) 48++TL.numL n:=by
 have e:=TL.rHz n;generalize Str.ofString (toString (n:Int))=z at e;have e':z.cps.toList=TL.numL n:=e;have hl:z.length=(TL.numL n).length:=by rw [← e'];rfl
 unfold Txt.zfill;split
 ·rename_i h
  rw [e',show 12-(TL.numL n).length=0 by rw [← hl];omega];rfl
 ·rename_i h
  have hz:zfilled z ((12:Int).toNat-z.length)=Builtin.Str.padded z (12-z.length) 0 48:=by
   unfold zfilled;have hd:∀c,z.cps[0]?=some c→c≠43∧c≠45:=by
    intro c hc;rw [← Array.getElem?_toList,e'] at hc;have hm:=List.mem_of_getElem? hc;unfold TL.numL at hm;obtain⟨d,hd,rfl⟩:=List.mem_map.mp hm
    have:=Nat.isDigit_of_mem_toDigits (by decide) (by decide) hd
    simp only [Char.isDigit,Bool.and_eq_true,decide_eq_true_eq] at this;have h2:(48:UInt32)≤d.val:=this.1;have h3:48≤d.val.toNat:=h2
    have:d.toNat=d.val.toNat:=rfl
    omega
   split
   ·rename_i h1;exact absurd rfl (hd _ h1).1
   ·rename_i h1;exact absurd rfl (hd _ h1).2
   ·rfl
  rw [hz,hl];show (Array.replicate _ _++z.cps++Array.replicate 0 48).toList=_;simp [e']
theorem lYz:aI ["sign","is_first"] ["sign","is_first"] (defScope d4z):=by walk_at "s"
def sgnZ (f m:Bool):Str:=if f=true then (if m=true then Str.ofString "- " else Str.ofString "") else if m=true then Str.ofString " - " else Str.ofString " + "
inductive aSz (vs:List V) (H:Hp) (Q:VK) (_E:XK):Prop
 | mk (m f) (_:vs=[.int (sgn m),.bl f]) (_:Q (.str (sgnZ f m)) H):aSz vs H Q _E
theorem mVz (T:Txt K mg a):Ok P w K mg base 1 a.wH ["sign","is_first"] aSz:=by
 refine bD T.oIz lYz ?b ?l ?h;walk_at "o"
 ·obtain⟨b,d,rfl,_⟩:=h;rfl
 ·obtain⟨m,f,rfl,k⟩:=h
  refine⟨_,(aB (dE (eO (pv 1)) (aE (aR (gU (aY mSz (pv 0) aT (nomark _)) bB bB))) bA)
   (aE (aR (gU (aY mSz (pv 0) aT (nomark _)) bB bB)))),?_⟩
  walk_at "rd"
  cases m <;> cases f <;> exact k
theorem qR (x:Int):(if x<0 then -x else x)=(x.natAbs:Int):=by split <;> omega
theorem cV_of {z:Str} {l:List Nat} (h:z.cps.toList=l):cV z=l.map fun c:Nat=>V.int (c:Int):=by unfold cV;rw [h]
theorem yPz (b:Bytes):bV b=(nums b).map fun c:Nat=>V.int (c:Int):=by unfold bV nums;rw [List.map_map];rfl
theorem lHz (x y:Str):(x++y).cps.toList=x.cps.toList++y.cps.toList:=by
 show (x.cps++y.cps).toList=_;rw [Array.toList_append]
theorem zE (x:Str):x.length=x.cps.toList.length:=rfl
theorem sDz {n k:Nat} (hk:0<k) (h:n<10 ^ k):(TL.numL n).length≤k:=by
 have:=fE hk h
 have e:=congrArg List.length (pR n);unfold nums at e;rw [List.length_map] at e;unfold TL.numL;rw [← e];exact this
theorem yI {n:Int} (h:n.natAbs<2 ^ 1900):n.natAbs.log2<1920:=by
 rcases Nat.eq_zero_or_pos n.natAbs with h0 | hp
 ·rw [h0,show Nat.log2 0=0 from by decide +kernel];decide
 ·exact Nat.lt_of_lt_of_le ((Nat.log2_lt (by omega)).mpr h) (by decide)
theorem tQz (l:List Nat):(shornN l).length≤l.length:=by
 unfold shornN;rw [List.length_reverse]
 have:=qN (fun x:Nat=>x == 48) l.reverse
 rw [List.length_reverse] at this;exact this
theorem fV:aI ["number","minus","whole","decimals","point"] ["number"] (defScope xN):=by walk_at "s"
inductive uG (vs:List V) (H:Hp) (Q:VK) (_E:XK):Prop
 | mk (x:Int) (_:vs=[.int x]) (_:x.natAbs<10 ^ 15) (_:∀z,cV z=bV (printNumber x)→Q (.str z) H):uG vs H Q _E
theorem uW (T:Txt K mg a):Ok P w K mg base 1 a.qK ["number"] uG:=by
 refine bD T.i0z fV ?b ?l ?h;walk_at "o"
 ·obtain⟨b,rfl,_⟩:=h;rfl
 ·obtain⟨x,rfl,hx,k⟩:=h
  refine⟨_,(aB (aP (i:=1) fV.nd rfl (Or.inl rfl) (gU (aY mSz (pv 0) aT (nomark _)) bB bB))
   (aB (aP (i:=2) fV.nd rfl (Or.inl rfl) (aZ kQ (bH qQ (by rfl) T.eXz f0z (aA (pv 0) aD)) (gI T.xIz)))
   (aB (aP (i:=3) fV.nd rfl (Or.inl rfl) (pe_m1 PySem.F.slot_str_rstrip PySem.F.type_str_rstrip uBz (pe_m1 PySem.F.slot_str_zfill PySem.F.type_str_zfill zHz (fX nG (by rfl) T.sFz sZz (aA (aZ mRz (bH qQ (by rfl) T.eXz f0z (aA (pv 0) aD)) (gI T.xIz)) aD)) (gI T.zY)) bB))
   (aB (aP (i:=4) fV.nd rfl (Or.inl rfl) (gU (aY BWz (pv 3) bB (nomark _)) bB bB))
   (aE (aR (BSz (jSz (pv 1) (jSz (pv 2) (jSz (pv 4) (jSz (pv 3) pj_nil))))))))))),?_⟩
  have hr:=Nat.mod_lt x.natAbs (show 0<10 ^ 12 by decide);have em:(x.natAbs:Int)%1000000000000=((x.natAbs%10 ^ 12:Nat):Int):=by
   rw [Int.natCast_emod];rfl
  have ed:(x.natAbs:Int)/1000000000000=((x.natAbs/10 ^ 12:Nat):Int):=by
   rw [Int.natCast_ediv];rfl
  have hzf:=u4z (x.natAbs%10 ^ 12);have hn1:(TL.numL (x.natAbs%10 ^ 12)).length≤12:=sDz (by decide) hr;have hn2:(TL.numL (x.natAbs/10 ^ 12)).length≤3:=sDz (by decide) (by omega);have hst:=rstrip0 (Txt.zfill (Str.ofString (toString (((x.natAbs%10 ^ 12:Nat)):Int))) 12);rw [hzf] at hst;generalize hzd:Txt.zfill (Str.ofString (toString (((x.natAbs%10 ^ 12:Nat)):Int))) 12=zd at *;generalize hzz:Txt.rstripChars zd (Str.ofString "0")=zz at *;have hzl:zd.length≤12:=by rw [zE,hzf,List.length_append,List.length_replicate];omega
  have hzzl:zz.length≤12:=by
   rw [zE,hst];refine Nat.le_trans (tQz _) ?_;rw [← hzf];exact hzl
  have hdec:zz=Str.ofString ""↔zz.cps.toList=[]:=by
   constructor
   ·rintro rfl;decide +kernel
   ·intro h
    have:zz.cps = #[]:=by simpa using h
    show zz=⟨_⟩;cases zz;simp at this;subst this;rfl
  have main:∀(zm zp:Str),zm.cps.toList=(if x<0 then [45] else [])→zp.cps.toList=(if zz.cps.toList=[] then [] else [46])→tJ [tVar 1,tVar 2,tVar 4,tVar 3] [some (.int x),some (.str zm),some (.int ((x.natAbs/10 ^ 12:Nat):Int)),some (.str zz),some (.str zp)] H Str.empty fun z H'=>Q (.str z) H':=by
   intro zm zp hm hp;have lm:zm.length≤1:=by rw [zE,hm];split <;> decide
   have lp:zp.length≤1:=by rw [zE,hp];split <;> decide
   have lw:(Str.ofString (toString ((x.natAbs/10 ^ 12:Nat):Int))).length≤3:=by rw [zE,show (Str.ofString (toString ((x.natAbs/10 ^ 12:Nat):Int))).cps.toList=TL.numL _ from TL.rHz _];exact hn2
   have small:∀n,n≤20→n≤sizeLine:=fun n h=>by rw [sizeLine_eq];omega
   have l0:(Str.empty:Str).length=0:=rfl;have la:∀x y:Str,(x++y).length=x.length+y.length:=fun x y=>by rw [zE,lHz,List.length_append];rfl
   refine⟨_,rfl,zm,.inl ⟨rfl,small _ (by omega)⟩,small _ (by rw [la];omega),_,rfl,_,.inr ⟨_,rfl,yI ?_,rfl⟩,small _ (by rw [la,la];omega),_,rfl,zp,.inl ⟨rfl,small _ (by omega)⟩,small _ (by rw [la,la,la];omega),_,rfl,zz,.inl ⟨rfl,small _ (by omega)⟩,small _ (by rw [la,la,la,la];omega),?_⟩
   ·refine Nat.lt_of_lt_of_le (Nat.lt_of_le_of_lt ?_ hx) (show 10 ^ 15≤2 ^ 1900 by decide +kernel)
    rw [Int.natAbs_natCast];exact Nat.div_le_self _ _
   ·refine k _ ?_
    rw [yPz,b8z];refine cV_of ?_;rw [lHz,lHz,lHz,lHz,hm,hp,show (Str.ofString (toString ((x.natAbs/10 ^ 12:Nat):Int))).cps.toList=TL.numL _ from TL.rHz _,hst];unfold numberN TL.numL;dsimp only;rw [show (Str.empty:Str).cps.toList=[] from rfl,List.nil_append];simp only [List.append_assoc]
  have mid:∀(zm:Str),zm.cps.toList=(if x<0 then [45] else [])→tM1
    (fun x xs H Q =>
     ∃a b,x=V.str a∧xs=[V.str b]∧a.length≤sizeLine∧Q (V.str (Txt.rstripChars a b)) H)
    (tM1 (fun x xs H Q=>∃a i,x=V.str a∧xs=[V.int i]∧PadOk i=true∧Q (V.str (Txt.zfill a i)) H)
     (tCB (fun xs H Q=>∃i,xs=[V.int i]∧i.natAbs.log2<1920∧Q (V.str (Str.ofString (toString i))) H)
      (tCons
       (tOp (rI (fun x j=>0<j) fun i j=>V.int (i%j))
        (tCB (fun xs H Q=>∃i,xs=[V.int i]∧Q (V.int (if i<0 then -i else i)) H) (tCons (tVar 0) tNil))
        (tC (V.int 1000000000000)))
       tNil))
     (tC (V.int 12)))
    (tC (V.str (Str.ofString "0")))
    [some (V.int x),some (V.str zm),some (V.int ((x.natAbs/10 ^ 12:Nat):Int)),none,none]
    H fun x_1 H1 =>
    scal x_1 (V.str (Str.ofString ""))=true∧
     if ¬x_1=V.str (Str.ofString "") then
      tJ [tVar 1,tVar 2,tVar 4,tVar 3]
       [some (V.int x),some (V.str zm),
        some (V.int ((x.natAbs/10 ^ 12:Nat):Int)),some x_1,some (V.str (Str.ofString "."))]
       H1 Str.empty fun z H'=>Q (V.str z) H'
     else
      tJ [tVar 1,tVar 2,tVar 4,tVar 3]
       [some (V.int x),some (V.str zm),
        some (V.int ((x.natAbs/10 ^ 12:Nat):Int)),some x_1,some (V.str (Str.ofString ""))]
       H1 Str.empty fun z H'=>Q (V.str z) H':=by
   intro zm hm;refine⟨_,rfl,_,rfl,_,_,rfl,rfl,(by show (0:Int)<1000000000000;decide),_,rfl,?_⟩;rw [qR,em];refine⟨yI ?_,⟨_,rfl⟩,_,_,rfl,rfl,by decide +kernel,?_⟩
   ·rw [Int.natAbs_natCast]
    exact Nat.lt_of_lt_of_le hr (show 10 ^ 12≤2 ^ 1900 by decide +kernel)
   rw [hzd];refine⟨⟨_,rfl⟩,_,_,rfl,rfl,by rw [sizeLine_eq];omega,?_⟩;rw [hzz];refine⟨rfl,?_⟩
   by_cases hz:zz.cps.toList=[]
   ·have:V.str zz=V.str (Str.ofString ""):=congrArg V.str (hdec.mpr hz)
    rw [if_neg (fun h=>h this)];exact main zm _ hm (by rw [if_pos hz];decide +kernel)
   ·have:¬ V.str zz=V.str (Str.ofString ""):=fun h=>hz (hdec.mp (V.str.inj h))
    rw [if_pos this];exact main zm _ hm (by rw [if_neg hz];decide +kernel)
  walk_at "rd"
  rw [qR,ed];have hcd:DGz (x.natAbs:Int) 1000000000000:=⟨by decide,by decide⟩
  by_cases h0:x<0
  ·rw [if_pos h0]
   exact⟨hcd,by simpa only [exists_and_left,exists_and_right,exists_eq_left] using mid (Str.ofString "-") (by rw [if_pos h0];decide +kernel)⟩
  ·rw [if_neg h0]
   exact⟨hcd,by simpa only [exists_and_left,exists_and_right,exists_eq_left] using mid (Str.ofString "") (by rw [if_neg h0];decide +kernel)⟩
theorem zYz {K:W.Frag} {l:Addr} {xs:List V} {g:TG} {tb:TS} {D:Ends} {σ : L2.St} {H:Hp} (Pv:Nat→L2.St→Hp→Prop) (h0:Pv 0 σ H) (hl:∀i σ H,i≤xs.length→Pv i σ H→SqL K H l xs)
  (hs:∀i x σ H T,xs[i]?=some x→Pv i σ H→H T=none→g (.ref T) σ (upd H T (.tup [.int (i:Nat),x])) fun σ2 H2=>tb {D with nx:=Pv (i+1),ct:=Pv (i+1),bk:=D.nx} σ2 H2) (hd:∀σ H,Pv xs.length σ H→D.nx σ H) :
  ∃W:Nat→Nat→L2.St→Hp→Prop,(∃m,W 0 m σ H)∧∀i m σ H,W i m σ H→
   ((Ite K l).stop i H∧D.nx σ H)∨((Ite K l).go i H∧∃N:L2.St→Hp→Prop,(∀σ' H',N σ' H'→∃m',m'<m∧W (i+1) m' σ' H')∧∀x H',(Ite K l).yld i H x H'→g x σ H' fun σ2 H2=>tb {D with nx:=N,ct:=N,bk:=D.nx} σ2 H2):=by
 refine⟨fun i m σ H=>m=xs.length-i∧i≤xs.length∧Pv i σ H,⟨xs.length,by simp,Nat.zero_le _,h0⟩,?_⟩;rintro i m σ H ⟨rfl,hi,p⟩;have q:=hl i σ H hi p
 by_cases hlt:i<xs.length
 ·refine .inr ⟨⟨xs,xs[i],q,by simp [hlt]⟩,Pv (i+1),fun σ' H' p'=>⟨xs.length-(i+1),by omega,rfl,hlt,p'⟩,fun x H' y=>?_⟩
  obtain⟨T,z,rfl,hT,rfl,y⟩:=y;exact hs i z σ H T (y xs q) p hT
 ·have e:i=xs.length:=by omega
  subst e;exact .inl ⟨⟨xs,q,Nat.le_refl _⟩,hd σ H p⟩
theorem pM (l:List Term) (t:Term):printSum (l++[t])=printSum l++printTerm l.isEmpty t:=by
 cases l with
 | nil=>show printTerm true t++[]=[]++printTerm true t;simp
 | cons x r =>
  show printTerm true x++(r++[t]).flatMap (printTerm false)=(printTerm true x++r.flatMap (printTerm false))++printTerm false t;rw [List.flatMap_append,List.append_assoc]
  simp
def sgnB (f m:Bool):Bytes:=if f=true then (if m=true then ascii "- " else []) else (if m=true then ascii " - " else ascii " + ")
def cntB (n:Nat):Bytes:=if n=1 then [] else digitsOf n++[32]
theorem bEz (f:Bool) (x:Term):printTerm f x=sgnB f x.minus++(cntB x.count++x.name):=rfl
theorem sgnZ_B (f m:Bool):cV (sgnZ f m)=bV (sgnB f m):=by cases f <;> cases m <;> decide +kernel
theorem jKz (f m:Bool):(sgnB f m).length≤3:=by cases f <;> cases m <;> decide +kernel
theorem o1z (n:Nat):cV (Str.ofString (toString (n:Int)))=bV (digitsOf n):=by
 rw [yPz,pR];exact cV_of (TL.rHz n)
theorem kLz {n:Nat} (h:n≤15):(cntB n).length≤3:=by
 unfold cntB;split
 ·exact Nat.zero_le _
 ·have:=fE (n:=n) (k:=2) (by decide) (by omega)
  rw [List.length_append,List.length_singleton];omega
theorem gT {f:Bool} {x:Term} (h1:x.count≤15) (h2:x.name.length≤7):(printTerm f x).length≤13:=by
 rw [bEz,List.length_append,List.length_append]
 have:=jKz f x.minus
 have:=kLz h1
 omega
theorem bFz:∀{l:List Term},(∀x∈l,x.count≤15∧x.name.length≤7)→(printSum l).length≤13*l.length
 | [],_=>Nat.le_refl _
 | x::r,h=>by
  have key:∀r:List Term,(∀x∈r,x.count≤15∧x.name.length≤7)→(r.flatMap (printTerm false)).length≤13*r.length:=fun r=>by
   induction r with
   | nil=>intro _;exact Nat.le_refl _
   | cons y r ih =>
    intro h;have h1:=gT (f:=false) (h y (List.mem_cons_self ..)).1 (h y (List.mem_cons_self ..)).2;have h2:=ih fun z hz=>h z (List.mem_cons_of_mem _ hz);rw [List.flatMap_cons,List.length_append,List.length_cons];omega
  have h1:=gT (f:=true) (h x (List.mem_cons_self ..)).1 (h x (List.mem_cons_self ..)).2;have h2:=key r fun z hz=>h z (List.mem_cons_of_mem _ hz);show (printTerm true x++r.flatMap (printTerm false)).length≤_;rw [List.length_append,List.length_cons];omega
theorem pB {z:Str} {b:Bytes} {n:Nat} (h:cV z=bV b) (hb:b.length≤n):z.length≤n:=by rw [← kL,h,bU];exact hb
theorem bZ {H H':Hp} {D:Addr} {o:HO} (s:Same H H') (h:H D=none):Same H (upd H' D o):=fun c u hc=>by rw [aO (aX hc h)];exact s c u hc
theorem gB:aI ["terms","printed","k","term"] ["terms"] (defScope rX):=by walk_at "s"
def NewB (H H':Hp) (D:Addr) (b:Bytes):Prop:=Same H H'∧H D=none∧H' D=some (.lst (bV b))
inductive qU (a:Adr) (vs:List V) (H:Hp) (Q:VK) (_E:XK):Prop
 | mk (l ts) (_:vs=[.ref l]) (_:eX a H l ts) (_:hEz ts) (_:∀H' D,NewB H H' D (printSum ts)→Q (.ref D) H'):qU a vs H Q _E
theorem rG (T:Txt K mg a):Ok P w K mg base 2 a.lX ["terms"] (qU a):=by
 have iV := @yD P w K mg base a T;have qNz := @mVz P w K mg base a T;refine bD T.dFz gB ?b ?l ?h;walk_at "o"
 ·obtain⟨l,ts,rfl,_⟩:=h;rfl
 ·obtain⟨l,ts,rfl,⟨as,hl,hTs⟩,hok,k⟩:=h
  refine⟨_,(aB (aP (i:=1) gB.nd rfl (Or.inl rfl) (dM aD))
   (aB (lN PassesOwn.leaving rfl (wHz (by rfl) T.bLz (aA (pv 0) aD)) (AMz rfl (cUz (cZ (i:=2) gB.nd rfl (Or.inl rfl)) (cUz (cZ (i:=3) gB.nd rfl (Or.inl rfl)) wIz)))
    (aB (aU (kP PySem.F.plainAttrs_list PySem.F.slot_list_extend PySem.F.type_list_extend dZ (pv 1) (aA (pc iV (hr.mono (by decide)) (by rfl) T.qE passN (aA (pc qNz (hr.mono (by decide)) (by rfl) T.p0z passN (aA (aM (pv 3) rfl) (aA (pO gW (pv 2) aT (nomark _)) aD))) aD)) aD)))
   (aB (dE (aY gQz (aM (pv 3) rfl) aT (nomark _)) (aE (aU (kP PySem.F.plainAttrs_list PySem.F.slot_list_extend PySem.F.type_list_extend dZ (pv 1) (aA (pc iV (hr.mono (by decide)) (by rfl) T.qE passN (aA (aZ dN (fX nG (by rfl) T.sFz sZz (aA (aM (pv 3) rfl) aD)) bB) aD)) aD)))) bA)
   (aE (aU (kP PySem.F.plainAttrs_list PySem.F.slot_list_extend PySem.F.type_list_extend iGz (pv 1) (aA (aM (pv 3) rfl) aD)))))))
   (aE (aR (pv 1))))),?_⟩
  have hlb:as.length=ts.length:=Paired.length hTs;refine⟨Nat.zero_le _,fun D hD=>?_⟩;dsimp only [gName];refine⟨_,rfl,l,_,rfl,SqL.of (aF hD _ _ hl),zYz (K:=K) (l:=l) (xs:=as.map V.ref) (fun i σ H'=>∃v2 v3:Option V,σ = [some (.ref l),some (.ref D),v2,v3]∧Same H H'∧H' D=some (.lst (bV (printSum (ts.take i))))) ⟨none,none,rfl,aF hD,aC⟩ (fun i σ H' _ ⟨_,_,_,s,_⟩=>SqL.of (s _ _ hl)) ?_ ?_⟩
  ·rintro i y σ H' U hi ⟨v2,v3,rfl,sH,hD'⟩ hU
   obtain⟨x,hx,rfl⟩:=eI hi;obtain⟨t,ht,dx,nn,g1,g2⟩:=Paired.at_ hTs hx;have hc:=hok.cnts t (List.mem_of_getElem? ht);have hnm:=hok.names t (List.mem_of_getElem? ht);have hi8:i<8:=by
    have:=(List.getElem?_eq_some_iff.mp ht).1
    have:=hok.len.2
    omega
   have hpl:(printSum (ts.take i)).length≤104:=by
    have:=bFz (l:=ts.take i) fun x hx=>⟨(hok.cnts x (List.mem_of_mem_take hx)).2,(hok.names x (List.mem_of_mem_take hx)).2⟩
    have:=List.length_take_le i ts
    omega
   have sU:=sH.trans (aF (o := .tup [.int (i:Nat),V.ref x]) hU);have hDU:upd H' U (.tup [.int (i:Nat),V.ref x]) D=some (.lst (bV (printSum (ts.take i)))):=aF hU _ _ hD';refine⟨U,_,rfl,SqT.of aC,rfl,?_⟩;generalize upd H' U (.tup [.int (i:Nat),V.ref x])=H1 at *;generalize hb:printSum (ts.take i)=pb at *;have hf:decide (V.int (i:Int)=V.int 0)=(ts.take i).isEmpty:=by
    cases i with
    | zero=>rfl
    | succ i =>
     have hlt:=(List.getElem?_eq_some_iff.mp ht).1;cases ts with
     | nil=>simp at hlt
     | cons x r =>
      rw [decide_eq_false (fun h=>by have:=V.int.inj h;omega)];rfl
   refine⟨_,_,rfl,_,_,rfl,rfl,?_⟩;refine lE (fun σ' H2 => σ'=[some (.ref l),some (.ref D),some (.int i),some (.ref x)]∧Same H H2∧H2 D=some (.lst (bV (pb++sgnB (ts.take i).isEmpty t.minus)))) (fun N hN=>?_) ?_
   ·have hsl:=jKz (ts.take i).isEmpty t.minus
    have hzb:=sgnZ_B (ts.take i).isEmpty t.minus;refine⟨_,rfl,.inl ⟨rfl,_,SqL.of hDU⟩,_,rfl,x,_,dx,_,_,rfl,sU _ _ g1,T.fQ,T.vV,bRz _ _ _ _,_,rfl,rfl,t.minus,_,rfl,?_⟩;rw [hf];have hzl:=pB hzb hsl;refine⟨_,rfl,(by omega),fun U2 hU2=>⟨D,U2,_,_,rfl,rfl,aF hU2 _ _ hDU,aC,?_,?_⟩⟩
    ·rw [hzb,bU,bU,sizeLine_eq]
     omega
    ·refine hN _ _ ⟨rfl,bZ (sU.trans (aF hU2)) hD,?_⟩
     rw [aC,hzb,kM]
   ·rintro σ' H2 ⟨rfl,s2,hD2⟩
    have hsl:=jKz (ts.take i).isEmpty t.minus;generalize hb2:pb++sgnB (ts.take i).isEmpty t.minus=pb2 at *;have hl2:pb2.length≤107:=by rw [← hb2,List.length_append];omega
    refine lE (fun σ' H3 => σ'=[some (.ref l),some (.ref D),some (.int i),some (.ref x)]∧Same H H3∧H3 D=some (.lst (bV (pb2++cntB t.count)))) (fun N hN=>?_) ?_
    ·refine⟨_,rfl,x,_,dx,_,_,rfl,s2 _ _ g1,T.fQ,T.jF,kU _ _ _ _,_,_,rfl,rfl,_,rfl,?_⟩
     by_cases h1:t.count=1
     ·rw [decide_eq_false (by omega)]
      refine iteF (hN _ _ ⟨rfl,s2,?_⟩);unfold cntB;rw [if_pos h1,List.append_nil];exact hD2
     ·rw [decide_eq_true (by omega)]
      have hzb:cV (Str.ofString (toString (t.count:Int))++Str.ofString " ")=bV (cntB t.count):=by
       unfold cntB;rw [if_neg h1,n4z,o1z,kM];rfl
      have hcl:=kLz hc.2;have hzl:=pB hzb hcl;have hz1:(Str.ofString (toString (t.count:Int))).length+(Str.ofString " ").length≤3:=by
       have:=kL (Str.ofString (toString (t.count:Int))++Str.ofString " ")
       rw [n4z,List.length_append,kL,kL] at this;omega
      refine iteT ⟨_,rfl,.inl ⟨rfl,_,SqL.of hD2⟩,_,rfl,x,_,dx,_,_,rfl,s2 _ _ g1,T.fQ,T.jF,kU _ _ _ _,_,rfl,?_,_,_,rfl,rfl,(by rw [sizeLine_eq];omega),_,rfl,(by omega),fun U2 hU2=>⟨D,U2,_,_,rfl,rfl,aF hU2 _ _ hD2,aC,?_,?_⟩⟩
      ·refine yI (Nat.lt_of_lt_of_le (show _<2 ^ 4 from ?_) (Nat.pow_le_pow_right (by decide) (by decide)))
       rw [Int.natAbs_natCast];omega
      ·rw [hzb,bU,bU,sizeLine_eq]
       omega
      ·refine hN _ _ ⟨rfl,bZ (s2.trans (aF hU2)) hD,?_⟩
       rw [aC,hzb,kM]
    ·rintro σ' H3 ⟨rfl,s3,hD3⟩
     have hcl:=kLz hc.2;refine⟨_,rfl,.inl ⟨rfl,_,SqL.of hD3⟩,_,rfl,x,_,dx,_,_,rfl,s3 _ _ g1,T.fQ,T.iN,jG _ _ _ _,D,nn,_,_,rfl,rfl,hD3,s3 _ _ g2,?_,?_⟩
     ·rw [bU,bU,List.length_append,sizeLine_eq]
      omega
     ·refine⟨_,_,rfl,bZ s3 hD,?_⟩
      rw [aC,bQ ht,pM,hb,bEz,← List.append_assoc,hb2,← List.append_assoc,kM _ t.name]
  ·rintro σ H' ⟨v2,v3,rfl,sH,hD'⟩
   rw [List.length_map,hlb,List.take_length] at hD';exact⟨_,rfl,k H' D ⟨sH,hD,hD'⟩⟩
theorem eR {x:Int} (h:x.natAbs<10 ^ 15):(printNumber x).length≤17:=by
 unfold printNumber;rw [List.length_append,List.length_append];have h1:=fE (n:=x.natAbs/10 ^ 12) (k:=3) (by decide) (by omega);have h2:=lUz (twelve (x.natAbs%10 ^ 12));rw [tN (Nat.mod_lt _ (by decide)),pCz] at h2;rw [tN (Nat.mod_lt _ (by decide))];have h3:(if x<0 then ([45]:Bytes) else []).length≤1:=by split <;> decide
 have h4:(if x.natAbs%10 ^ 12=0 then ([]:Bytes) else 46::shorn (pad 12 (x.natAbs%10 ^ 12))).length≤13:=by
  split
  ·exact Nat.zero_le _
  ·rw [List.length_cons];omega
 dsimp only;omega
theorem lO {s:List Term} (h:hEz s):(printSum s).length≤104:=by
 have:=bFz (l:=s) fun x hx=>⟨(h.cnts x hx).2,(h.names x hx).2⟩
 have:=h.len.2
 omega
theorem mKz {W:Bytes} {x:Part} (h:vG x) (hW:W.length≤10):(printPart W x).length≤132:=by
 unfold printPart;rw [List.length_append,List.length_append,List.length_cons]
 have:=eR h.num
 have:=lO h.sum
 omega
theorem fL {W:Bytes} (hW:W.length≤10):∀{l:List Part},(∀x∈l,vG x)→(l.flatMap (printPart W)).length≤132*l.length
 | [],_=>Nat.zero_le _
 | x::r,h=>by
  have h1:=mKz (h x (List.mem_cons_self ..)) hW;have h2:=fL hW (l:=r) fun y hy=>h y (List.mem_cons_of_mem _ hy);rw [List.flatMap_cons,List.length_append,List.length_cons];omega
theorem tF:cV (Str.ofString " ")=bV [32]:=by decide +kernel
theorem pC {x y:Str} {b c:Bytes} (h1:cV x=bV b) (h2:cV y=bV c):x.length+y.length=b.length+c.length:=by rw [← kL,← kL,h1,h2,bU,bU]
theorem n3z {x y:Str} {b c:Bytes} (h1:cV x=bV b) (h2:cV y=bV c):cV (x++y)=bV (b++c):=by rw [n4z,kM,h1,h2]
theorem iJ:aI ["word","swings","printed","swing"] ["word","swings"] (defScope qY):=by walk_at "s"
inductive oC (a:Adr) (vs:List V) (H:Hp) (Q:VK) (_E:XK):Prop
 | mk (z W l ps) (_:vs=[.str z,.ref l]) (_:cV z=bV W) (_:W.length≤10) (_:eU a H l ps) (_:(∀x∈ps,vG x)) (_:ps.length≤8) (_:∀H' D,NewB H H' D (ps.flatMap (printPart W))→Q (.ref D) H'):oC a vs H Q _E
theorem zL (T:Txt K mg a):Ok P w K mg base 3 a.jS ["word","swings"] (oC a):=by
 have iV := @yD P w K mg base a T;have kZ := @uW P w K mg base a T;have mF := @rG P w K mg base a T;refine bD T.bYz iJ ?b ?l ?h;walk_at "o"
 ·obtain⟨z,W,l,ps,rfl,_⟩:=h;rfl
 ·obtain⟨z,W,l,ps,rfl,hz,hW,⟨as,hl,hSs⟩,hok,h8,k⟩:=h
  refine⟨_,(aB (aP (i:=2) iJ.nd rfl (Or.inl rfl) (dM aD))
   (aB (lN PassesOwn.leaving rfl (eT (pv 1)) (cZ (i:=3) iJ.nd rfl (Or.inl rfl))
    (aB (aU (kP PySem.F.plainAttrs_list PySem.F.slot_list_extend PySem.F.type_list_extend dZ (pv 2) (aA (pc iV (hr.mono (by decide)) (by rfl) T.qE passN (aA (aZ dN (aZ dN (pv 0) (pc kZ (hr.mono (by decide)) (by rfl) T.qD passN (aA (aM (pv 3) rfl) aD))) bB) aD)) aD)))
   (aE (aU (kP PySem.F.plainAttrs_list PySem.F.slot_list_extend PySem.F.type_list_extend dZ (pv 2) (aA (pc mF (hr.mono (by decide)) (by rfl) T.sO passN (aA (aM (pv 3) rfl) aD)) aD))))))
   (aE (aR (pv 2))))),?_⟩
  have hlb:as.length=ps.length:=Paired.length hSs;refine⟨Nat.zero_le _,fun D hD=>?_⟩;dsimp only [gName];refine⟨_,rfl,l,rfl,⟨_,SqL.of (aF hD _ _ hl)⟩,iA (K:=K) (a:=l) (xs:=as.map V.ref) (fun i σ H'=>∃v3:Option V,σ = [some (.str z),some (.ref l),some (.ref D),v3]∧Same H H'∧H' D=some (.lst (bV ((ps.take i).flatMap (printPart W))))) ⟨none,rfl,aF hD,aC⟩ (fun i σ H' _ ⟨_,_,s,_⟩=>SqL.of (s _ _ hl)) ?_ ?_⟩
  ·rintro i y σ H1 hi ⟨v3,rfl,s1,hD1⟩
   obtain⟨x,hx,rfl⟩:=eI hi;obtain⟨p,hp,dx,lt,g1,g2⟩:=Paired.at_ hSs hx;have hpo:=hok p (List.mem_of_getElem? hp);have hpl:((ps.take i).flatMap (printPart W)).length≤1056:=by
    have h1:=fL hW (l:=ps.take i) fun x hx=>hok x (List.mem_of_mem_take hx);have h2:=List.length_take_le' i ps;omega
   have hnl:=eR hpo.num;have hsl:=lO hpo.sum;generalize hb:(ps.take i).flatMap (printPart W)=pb at *;refine lE (fun σ' H2 => σ'=[some (.str z),some (.ref l),some (.ref D),some (.ref x)]∧Same H H2∧H2 D=some (.lst (bV (pb++(W++printNumber p.number++[32]))))) (fun N hN=>?_) ?_
   ·refine⟨_,rfl,.inl ⟨rfl,_,SqL.of hD1⟩,_,rfl,_,rfl,x,_,dx,_,_,rfl,s1 _ _ g1,T.nF,T.iX,lU _ _,_,rfl,hpo.num,fun zn hzn=>?_⟩
    have c1:=n3z hz hzn;have c2:=n3z c1 tF;have l1:=pC hz hzn;have l2:=pC c1 tF;have l3:=pB c2 (Nat.le_refl _);rw [List.length_append,List.length_append,List.length_singleton] at l3;rw [List.length_append,List.length_singleton] at l2;refine⟨_,_,rfl,rfl,(by rw [sizeLine_eq];omega),_,_,rfl,rfl,(by rw [sizeLine_eq];omega),_,rfl,(by omega),fun U2 hU2=>⟨D,U2,_,_,rfl,rfl,aF hU2 _ _ hD1,aC,?_,?_⟩⟩
    ·rw [c2,bU,bU,sizeLine_eq]
     simp only [List.length_append,List.length_singleton];omega
    ·refine hN _ _ ⟨rfl,bZ (s1.trans (aF hU2)) hD,?_⟩
     rw [aC,c2,← kM]
   ·rintro σ' H2 ⟨rfl,s2,hD2⟩
    refine⟨_,rfl,.inl ⟨rfl,_,SqL.of hD2⟩,_,rfl,x,_,dx,_,_,rfl,s2 _ _ g1,T.nF,T.kR,iZ _ _,lt,p.sum,rfl,g2.same s2,hpo.sum,fun H3 U ⟨s3,hU,hU3⟩=>⟨D,U,_,_,rfl,rfl,s3 _ _ hD2,hU3,?_,?_⟩⟩
    ·rw [bU,bU,sizeLine_eq]
     simp only [List.length_append,List.length_singleton];omega
    ·refine⟨_,rfl,bZ (s2.trans s3) hD,?_⟩
     rw [aC,bQ hp,List.flatMap_append,hb,← kM];simp [printPart]
  ·rintro σ H' ⟨v3,rfl,sH,hD'⟩
   rw [List.length_map,hlb,List.take_length] at hD';exact⟨_,rfl,k H' D ⟨sH,hD,hD'⟩⟩
def turnB (q:Nat):Bytes:=if q=0 then [] else ascii " turn " ++ digitsOf (90*q)
def restB:Line→Bytes
 | .angle _ _ x y=>printNumber x++[32]++printNumber y
 | .wave _ _ s q fs ss=>printSum s++turnB q++fs.flatMap (printPart (ascii " factor "))++ss.flatMap (printPart (ascii " shift "))
 | .sum _ _ s=>printSum s
def wordB:Line→Bytes
 | .angle _ _ _ _=>ascii "angle "
 | .wave _ _ _ _ _ _=>ascii "wave "
 | .sum _ _ _=>ascii "sum "
theorem mLz (l:Line):printLine l=wordB l++l.name++[32]++restB l++[LF]:=by
 cases l <;> simp [printLine,wordB,restB,Line.name,turnB]
theorem DAz:ascii " factor " = [32,102,97,99,116,111,114,32]:=by decide +kernel
theorem CZz:ascii " shift " = [32,115,104,105,102,116,32]:=by decide +kernel
theorem asc_t:ascii " turn " = [32,116,117,114,110,32]:=by decide +kernel
theorem lGz {q:Nat} (h:q≤3):(turnB q).length≤9:=by
 unfold turnB;split
 ·exact Nat.zero_le _
 ·have:=fE (n:=90*q) (k:=3) (by decide) (by omega)
  rw [List.length_append,asc_t]
  have:List.length ([32,116,117,114,110,32]:Bytes)=6:=rfl
  omega
theorem v5z {l:Line} (h:dW l):(restB l).length≤3000:=by
 cases h with
 | angle hn hx hy =>
  have:=eR hx
  have:=eR hy
  unfold restB;simp only [List.length_append,List.length_singleton];omega
 | sum hn hs =>
  have:=lO hs
  exact Nat.le_trans this (by decide)
 | wave hn hs ht hf hg lf ls =>
  have:=lO hs
  have:=lGz ht
  have:=fL (W:=ascii " factor ") (by rw [DAz];decide) hf
  have:=fL (W:=ascii " shift ") (by rw [CZz];decide) hg
  unfold restB;simp only [List.length_append];omega
theorem z_fac:cV (Str.ofString " factor ")=bV (ascii " factor "):=by decide +kernel
theorem z_shf:cV (Str.ofString " shift ")=bV (ascii " shift "):=by decide +kernel
theorem z_trn:cV (Str.ofString " turn ")=bV (ascii " turn "):=by decide +kernel
theorem rV:aI ["line","printed"] ["line"] (defScope uP):=by walk_at "s"
inductive rS (a:Adr) (vs:List V) (H:Hp) (Q:VK) (_E:XK):Prop
 | mk (x ln) (_:vs=[.ref x]) (_:fS a H x ln) (_:dW ln) (_:∀H' D,NewB H H' D (restB ln)→Q (.ref D) H'):rS a vs H Q _E
theorem eSz (T:Txt K mg a):Ok P w K mg base 4 a.nV ["line"] (rS a):=by
 have iV := @yD P w K mg base a T;have kZ := @uW P w K mg base a T;have mF := @rG P w K mg base a T;have rN := @zL P w K mg base a T;refine bD T.gDz rV ?b ?l ?h;walk_at "o"
 ·obtain⟨x,ln,rfl,_⟩:=h;rfl
 ·obtain⟨x,ln,rfl,hL,hok,k⟩:=h
  refine⟨_,(aB (dE (aY gW (aM (pv 0) rfl) (gS T.sL) (nomark _)) (aE (aR (pc iV (hr.mono (by decide)) (by rfl) T.qE passN (aA (aZ dN (aZ dN (pc kZ (hr.mono (by decide)) (by rfl) T.qD passN (aA (aM (pv 0) rfl) aD)) bB) (pc kZ (hr.mono (by decide)) (by rfl) T.qD passN (aA (aM (pv 0) rfl) aD))) aD)))) bA)
   (aB (aP (i:=1) rV.nd rfl (Or.inl rfl) (pc mF (hr.mono (by decide)) (by rfl) T.sO passN (aA (aM (pv 0) rfl) aD)))
   (aB (dE (aY gW (aM (pv 0) rfl) (gS T.bPz) (nomark _)) (aB (dE (aY gQz (aM (pv 0) rfl) aT (nomark _)) (aE (aU (kP PySem.F.plainAttrs_list PySem.F.slot_list_extend PySem.F.type_list_extend dZ (pv 1) (aA (pc iV (hr.mono (by decide)) (by rfl) T.qE passN (aA (aZ dN bB (fX nG (by rfl) T.sFz sZz (aA (aM (pv 0) rfl) aD))) aD)) aD)))) bA)
   (aB (aU (kP PySem.F.plainAttrs_list PySem.F.slot_list_extend PySem.F.type_list_extend dZ (pv 1) (aA (pc rN (hr.mono (by decide)) (by rfl) T.rK passN (aA bB (aA (aM (pv 0) rfl) aD))) aD)))
   (aE (aU (kP PySem.F.plainAttrs_list PySem.F.slot_list_extend PySem.F.type_list_extend dZ (pv 1) (aA (pc rN (hr.mono (by decide)) (by rfl) T.rK passN (aA bB (aA (aM (pv 0) rfl) aD))) aD)))))) bA)
   (aE (aR (pv 1)))))),?_⟩
  cases ln with
  | angle n p ph rt =>
   obtain⟨dx,nn,h1,h2⟩:=hL;cases hok with
   | angle hn hx hy =>
   refine⟨_,rfl,x,_,dx,_,_,rfl,h1,T.bI,T.cO,dF _ _ _ _,rfl,_,rfl,?_⟩;rw [w_aa];have n1:=eR hx;have n2:=eR hy;refine iteT ⟨_,rfl,x,_,dx,_,_,rfl,h1,T.bI,T.iO,nD _ _ _ _,_,rfl,hx,fun z1 hz1=>?_⟩;have c1:=n3z hz1 tF;have l1:=pC hz1 tF;rw [List.length_singleton] at l1;refine⟨_,_,rfl,rfl,(by rw [sizeLine_eq];omega),_,rfl,x,_,dx,_,_,rfl,h1,T.bI,T.jN,pA _ _ _ _,_,rfl,hy,fun z2 hz2=>?_⟩;have c2:=n3z c1 hz2;have l2:=pC c1 hz2;have l3:=pB c2 (Nat.le_refl _);simp only [List.length_append,List.length_singleton] at l2 l3;refine⟨_,_,rfl,rfl,(by rw [sizeLine_eq];omega),_,rfl,(by omega),fun D hD=>k _ D ⟨aF hD,hD,?_⟩⟩;rw [aC,c2];rfl
  | sum n p s =>
   obtain⟨dx,nn,lt,h1,h2,h3⟩:=hL;cases hok with
   | sum hn hs =>
   refine⟨_,rfl,x,_,dx,_,_,rfl,h1,T.bO,T.bX,cI _ _ _,rfl,_,rfl,?_⟩;rw [w_sa];refine iteF ⟨_,rfl,x,_,dx,_,_,rfl,h1,T.bO,T.dY,eQ _ _ _,lt,s,rfl,h3,hs,fun H1 D ⟨s1,hD,hD1⟩=>?_⟩;refine⟨_,rfl,x,_,dx,_,_,rfl,s1 _ _ h1,T.bO,T.bX,cI _ _ _,rfl,_,rfl,?_⟩;rw [DJz];exact iteF ⟨_,rfl,k _ D ⟨s1,hD,hD1⟩⟩
  | wave n p s q fs ss =>
   obtain⟨dx,nn,lt,lf,ls,h1,h2,h3,h4,h5⟩:=hL;have hok':=hok;cases hok with
   | wave hn hs ht hf hg lnf lns =>
   have b1:=lO hs;have b2:=lGz ht;have b3:=fL (W:=ascii " factor ") (by rw [DAz];decide) hf;have b4:=fL (W:=ascii " shift ") (by rw [CZz];decide) hg;refine⟨_,rfl,x,_,dx,_,_,rfl,h1,T.aV,T.bW,cP _ _ _ _ _ _,rfl,_,rfl,?_⟩;rw [w_wa];refine iteF ⟨_,rfl,x,_,dx,_,_,rfl,h1,T.aV,T.gD,iP _ _ _ _ _ _,lt,s,rfl,h3,hs,fun H1 D ⟨s1,hD,hD1⟩=>?_⟩;refine⟨_,rfl,x,_,dx,_,_,rfl,s1 _ _ h1,T.aV,T.bW,cP _ _ _ _ _ _,rfl,_,rfl,?_⟩;rw [DIz];refine iteT ?_;refine lE (fun σ' H2 => σ'=[some (.ref x),some (.ref D)]∧Same H H2∧H2 D=some (.lst (bV (printSum s++turnB q)))) (fun N hN=>?_) ?_
   ·refine⟨_,rfl,x,_,dx,_,_,rfl,s1 _ _ h1,T.aV,T.gY,jP _ _ _ _ _ _,_,_,rfl,rfl,_,rfl,?_⟩
    by_cases h0:q=0
    ·rw [decide_eq_false (by omega)]
     refine iteF (hN _ _ ⟨rfl,s1,?_⟩);unfold turnB;rw [if_pos h0,List.append_nil];exact hD1
    ·rw [decide_eq_true (by omega)]
     have c1:cV (Str.ofString " turn " ++ Str.ofString (toString ((90*q:Nat):Int)))=bV (turnB q):=by
      unfold turnB;rw [if_neg h0];exact n3z z_trn (o1z _)
     have l1:=pC z_trn (o1z (90*q));have l2:=pB c1 (Nat.le_refl _);have l4:=fE (n:=90*q) (k:=3) (by decide) (by omega);have l5:(ascii " turn ").length=6:=by decide +kernel
     refine iteT ⟨_,rfl,.inl ⟨rfl,_,SqL.of hD1⟩,_,rfl,x,_,dx,_,_,rfl,s1 _ _ h1,T.aV,T.gY,jP _ _ _ _ _ _,_,rfl,?_,_,_,rfl,rfl,(by rw [sizeLine_eq];omega),_,rfl,(by omega),fun U2 hU2=>⟨D,U2,_,_,rfl,rfl,aF hU2 _ _ hD1,aC,?_,?_⟩⟩
     ·refine yI (Nat.lt_of_lt_of_le (show _<2 ^ 10 from ?_) (Nat.pow_le_pow_right (by decide) (by decide)))
      rw [Int.natAbs_natCast];omega
     ·rw [c1,bU,bU,sizeLine_eq]
      omega
     ·refine hN _ _ ⟨rfl,bZ (s1.trans (aF hU2)) hD,?_⟩
      rw [aC,c1,← kM]
   ·rintro σ' H2 ⟨rfl,s2,hD2⟩
    refine⟨_,rfl,.inl ⟨rfl,_,SqL.of hD2⟩,_,rfl,x,_,dx,_,_,rfl,s2 _ _ h1,T.aV,T.dR,eM _ _ _ _ _ _,_,ascii " factor ",lf,fs,rfl,z_fac,(by rw [DAz];decide),h4.same s2,hf,lnf,fun H3 U ⟨s3,hU,hU3⟩=>⟨D,U,_,_,rfl,rfl,s3 _ _ hD2,hU3,?_,?_⟩⟩
    ·rw [bU,bU,sizeLine_eq,List.length_append]
     omega
    ·have s4:Same H (upd H3 D (.lst (bV (printSum s++turnB q)++bV (fs.flatMap (printPart (ascii " factor ")))))):=bZ (s2.trans s3) hD
     have hD4:upd H3 D (.lst (bV (printSum s++turnB q)++bV (fs.flatMap (printPart (ascii " factor "))))) D=some (.lst (bV (printSum s++turnB q++fs.flatMap (printPart (ascii " factor "))))):=by rw [aC,← kM]
     generalize upd H3 D (.lst (bV (printSum s++turnB q)++bV (fs.flatMap (printPart (ascii " factor ")))))=H4 at *;refine⟨_,rfl,.inl ⟨rfl,_,SqL.of hD4⟩,_,rfl,x,_,dx,_,_,rfl,s4 _ _ h1,T.aV,T.fM,iB _ _ _ _ _ _,_,ascii " shift ",ls,ss,rfl,z_shf,(by rw [CZz];decide),h5.same s4,hg,lns,fun H5 U ⟨s5,hU,hU5⟩=>⟨D,U,_,_,rfl,rfl,s5 _ _ hD4,hU5,?_,?_⟩⟩
     ·rw [bU,bU,sizeLine_eq]
      simp only [List.length_append];omega
     ·refine⟨_,rfl,k _ D ⟨bZ (s4.trans s5) hD,hD,?_⟩⟩
      rw [aC,← kM];rfl
theorem asc_a:ascii "angle " = [97,110,103,108,101,32]:=by decide +kernel
theorem asc_w:ascii "wave " = [119,97,118,101,32]:=by decide +kernel
theorem asc_u:ascii "sum " = [115,117,109,32]:=by decide +kernel
theorem u6z (l:Line):cV (wordOf l++Str.ofString " ")=bV (wordB l):=by
 cases l
 ·exact u7z.trans (congrArg bV asc_a).symm
 ·exact ACz.trans (congrArg bV asc_w).symm
 ·exact z_sum.trans (congrArg bV asc_u).symm
theorem u8z (l:Line):(wordB l).length≤6:=by
 cases l
 ·show (ascii "angle ").length≤6;decide +kernel
 ·show (ascii "wave ").length≤6;decide +kernel
 ·show (ascii "sum ").length≤6;decide +kernel
theorem j2z {l:Line} (h:dW l):0<l.name.length∧l.name.length≤7:=by
 cases h with
 | angle hn _ _=>exact hn
 | wave hn _ _ _ _ _ _=>exact hn
 | sum hn _=>exact hn
theorem jK:aI ["lines","printed","line"] ["lines"] (defScope rY):=by walk_at "s"
inductive qV (a:Adr) (vs:List V) (H:Hp) (Q:VK) (_E:XK):Prop
 | mk (l ls) (_:vs=[.ref l]) (_:pE a H l ls) (_:(∀ln∈ls,dW ln)) (_:(printed ls).length≤16000) (_:∀H' D,NewB H H' D (printed ls)→Q (.ref D) H'):qV a vs H Q _E
theorem cAz (T:Txt K mg a):Ok P w K mg base 5 a.lY ["lines"] (qV a):=by
 have iV := @yD P w K mg base a T;have hGz := @eSz P w K mg base a T;refine bD T.dGz jK ?b ?l ?h;walk_at "o"
 ·obtain⟨l,ls,rfl,_⟩:=h;rfl
 ·obtain⟨l,ls,rfl,⟨as,hl,hLs⟩,hok,hlen,k⟩:=h
  refine⟨_,(aB (aP (i:=1) jK.nd rfl (Or.inl rfl) (dM aD))
   (aB (lN PassesOwn.leaving rfl (eT (pv 0)) (cZ (i:=2) jK.nd rfl (Or.inl rfl))
    (aB (aU (kP PySem.F.plainAttrs_list PySem.F.slot_list_extend PySem.F.type_list_extend dZ (pv 1) (aA (pc iV (hr.mono (by decide)) (by rfl) T.qE passN (aA (aZ dN (aM (pv 2) rfl) bB) aD)) aD)))
   (aB (aU (kP PySem.F.plainAttrs_list PySem.F.slot_list_extend PySem.F.type_list_extend iGz (pv 1) (aA (aM (pv 2) rfl) aD)))
   (aB (aU (kP PySem.F.plainAttrs_list PySem.F.slot_list_extend PySem.F.type_list_extend dZ (pv 1) (aA (pc iV (hr.mono (by decide)) (by rfl) T.qE passN (aA bB aD)) aD)))
   (aB (aU (kP PySem.F.plainAttrs_list PySem.F.slot_list_extend PySem.F.type_list_extend dZ (pv 1) (aA (pc hGz (hr.mono (by decide)) (by rfl) T.hAz passN (aA (pv 2) aD)) aD)))
   (aE (aU (kP PySem.F.plainAttrs_list PySem.F.slot_list_extend PySem.F.type_list_extend dZ (pv 1) (aA (pc iV (hr.mono (by decide)) (by rfl) T.qE passN (aA bB aD)) aD)))))))))
   (aE (aR (pv 1))))),?_⟩
  have hlb:as.length=ls.length:=Paired.length hLs;refine⟨Nat.zero_le _,fun D hD=>?_⟩;dsimp only [gName];refine⟨_,rfl,l,rfl,⟨_,SqL.of (aF hD _ _ hl)⟩,iA (K:=K) (a:=l) (xs:=as.map V.ref) (fun i σ H'=>∃v3:Option V,σ = [some (.ref l),some (.ref D),v3]∧Same H H'∧H' D=some (.lst (bV (printed (ls.take i))))) ⟨none,rfl,aF hD,aC⟩ (fun i σ H' _ ⟨_,_,s,_⟩=>SqL.of (s _ _ hl)) ?_ ?_⟩
  ·rintro i y σ H1 hi ⟨v3,rfl,s1,hD1⟩
   obtain⟨x,hx,rfl⟩:=eI hi;obtain⟨ln,hln,hL⟩:=Paired.at_ hLs hx;have ho:=hok ln (List.mem_of_getElem? hln);obtain⟨C,dx,fs,nn,g1,gC,gw,gn,gp,fw,fn,fp,hnn⟩:=fS.acc T hL;have hpl:(printed (ls.take i)).length≤16000:=by
    have e:printed ls=printed (ls.take i)++printed (ls.drop i):=by unfold printed;rw [← List.flatMap_append,List.take_append_drop]
    rw [e,List.length_append] at hlen;omega
   have hrl:=v5z ho;have hwl:=u8z ln;have hnl:=(j2z ho).2;have hsn:printed (ls.take (i+1))=printed (ls.take i)++(wordB ln++ln.name++[32]++restB ln++[LF]):=by
    rw [bQ hln];unfold printed;rw [List.flatMap_append,← mLz]
    simp
   rw [hsn];generalize hb:printed (ls.take i)=pb at *;have l0:=pB (u6z ln) (Nat.le_refl _);have l1:(wordOf ln).length+(Str.ofString " ").length≤6:=by
    have:=kL (wordOf ln++Str.ofString " ")
    rw [n4z,List.length_append,kL,kL] at this;omega
   refine⟨_,rfl,.inl ⟨rfl,_,SqL.of hD1⟩,_,rfl,x,C,dx,fs,_,rfl,s1 _ _ g1,gC,gw,fw,_,_,rfl,rfl,(by rw [sizeLine_eq];omega),_,rfl,(by omega),fun U hU=>⟨D,U,_,_,rfl,rfl,aF hU _ _ hD1,aC,?_,?_⟩⟩
   ·rw [u6z,bU,bU,sizeLine_eq]
    omega
   have s2:=bZ (o := .lst (bV pb++cV (wordOf ln++Str.ofString " "))) (s1.trans (aF (o := .lst (cV (wordOf ln++Str.ofString " "))) hU)) hD;have hD2:upd (upd H1 U (.lst (cV (wordOf ln++Str.ofString " ")))) D (.lst (bV pb++cV (wordOf ln++Str.ofString " "))) D=some (.lst (bV (pb++wordB ln))):=by rw [aC,u6z,← kM]
   generalize upd (upd H1 U (.lst (cV (wordOf ln++Str.ofString " ")))) D (.lst (bV pb++cV (wordOf ln++Str.ofString " ")))=H2 at *;refine⟨_,rfl,.inl ⟨rfl,_,SqL.of hD2⟩,_,rfl,x,C,dx,fs,_,rfl,s2 _ _ g1,gC,gn,fn,D,nn,_,_,rfl,rfl,hD2,s2 _ _ hnn,?_,?_⟩
   ·rw [bU,bU,sizeLine_eq,List.length_append]
    omega
   have s3:=bZ (o := .lst (bV (pb++wordB ln)++bV ln.name)) s2 hD;have hD3:upd H2 D (.lst (bV (pb++wordB ln)++bV ln.name)) D=some (.lst (bV (pb++wordB ln++ln.name))):=by rw [aC,← kM]
   generalize upd H2 D (.lst (bV (pb++wordB ln)++bV ln.name))=H3 at *;refine⟨_,rfl,.inl ⟨rfl,_,SqL.of hD3⟩,_,rfl,(by decide +kernel),fun U hU=>⟨D,U,_,_,rfl,rfl,aF hU _ _ hD3,aC,?_,?_⟩⟩
   ·rw [tF,bU,bU,sizeLine_eq]
    simp only [List.length_append,List.length_singleton];omega
   rw [tF];have s4:=bZ (o := .lst (bV (pb++wordB ln++ln.name)++bV [32])) (s3.trans (aF (o := .lst (bV [32])) hU)) hD;have hD4:upd (upd H3 U (.lst (bV [32]))) D (.lst (bV (pb++wordB ln++ln.name)++bV [32])) D=some (.lst (bV (pb++wordB ln++ln.name++[32]))):=by rw [aC,← kM]
   generalize upd (upd H3 U (.lst (bV [32]))) D (.lst (bV (pb++wordB ln++ln.name)++bV [32]))=H4 at *;refine⟨_,rfl,.inl ⟨rfl,_,SqL.of hD4⟩,_,rfl,x,ln,rfl,hL.same s4,ho,fun H5 U ⟨s5,hU,hU5⟩=>⟨D,U,_,_,rfl,rfl,s5 _ _ hD4,hU5,?_,?_⟩⟩
   ·rw [bU,bU,sizeLine_eq]
    simp only [List.length_append,List.length_singleton];omega
   have s6:=bZ (o := .lst (bV (pb++wordB ln++ln.name++[32])++bV (restB ln))) (s4.trans s5) hD;have hD6:upd H5 D (.lst (bV (pb++wordB ln++ln.name++[32])++bV (restB ln))) D=some (.lst (bV (pb++wordB ln++ln.name++[32]++restB ln))):=by rw [aC,← kM]
   generalize upd H5 D (.lst (bV (pb++wordB ln++ln.name++[32])++bV (restB ln)))=H6 at *;refine⟨_,rfl,.inl ⟨rfl,_,SqL.of hD6⟩,_,rfl,(by decide +kernel),fun U hU=>⟨D,U,_,_,rfl,rfl,aF hU _ _ hD6,aC,?_,?_⟩⟩
   ·rw [z_lf,bU,bU,sizeLine_eq]
    simp only [List.length_append,List.length_singleton];omega
   refine⟨_,rfl,bZ (s6.trans (aF hU)) hD,?_⟩;rw [aC,z_lf,← kM];simp only [List.append_assoc];rfl
  ·rintro σ H' ⟨v3,rfl,sH,hD'⟩
   rw [List.length_map,hlb,List.take_length] at hD';exact⟨_,rfl,k H' D ⟨sH,hD,hD'⟩⟩
theorem as_v {F:V→Hp→Prop} {v v':V} {H:Hp} (e:v=v') (h:F v' H):F v H:=e ▸ h
def tm (x:Nat):Nat→Nat
 | 0=>2 ^ 192
 | k+1=>tm x k*x/2 ^ 192/(k+1)
theorem f1z (x:Nat):∀f k,arcTerms x f k (tm x k)=(List.range f).map fun i=>tm x (k+i)
 | 0,_=>rfl
 | f+1,k=>by
  have ih:=f1z x f (k+1);show tm x k::arcTerms x f (k+1) (tm x k*x/2 ^ 192/(k+1))=_;rw [List.range_succ_eq_map,List.map_cons,List.map_map];refine congrArg (tm x k :: ·) ?_;rw [show tm x k*x/2 ^ 192/(k+1)=tm x (k+1) from rfl,ih];refine List.map_congr_left fun i _=>?_;show tm x (k+1+i)=tm x (k+(i+1));rw [Nat.add_assoc,Nat.add_comm 1 i]
theorem aQz:∀(m:Nat) (g:Nat→Nat),turnAbout ((List.range (4*m)).map g)=((List.range m).map fun k=>(g (4*k):Int)-(g (4*k+2):Int)).sum
 | 0,_=>rfl
 | m+1,g=>by
  rw [show 4*(m+1)=4*m+1+1+1+1 by omega,List.range_succ_eq_map,List.range_succ_eq_map,List.range_succ_eq_map,List.range_succ_eq_map];simp only [List.map_cons,List.map_map];show (g 0:Int)-(g 2:Int)+turnAbout _=_;have ih:=aQz m (fun i=>g (i+4));rw [show (List.map (g ∘ Nat.succ ∘ Nat.succ ∘ Nat.succ ∘ Nat.succ) (List.range (4*m)))=(List.range (4*m)).map (fun i=>g (i+4)) from rfl,ih,List.range_succ_eq_map,List.map_cons,List.sum_cons,List.map_map];refine congrArg (((g 0:Int)-(g 2:Int)) + ·) ?_;refine congrArg List.sum (List.map_congr_left fun k _=>?_);show (g (4*k+4):Int)-(g (4*k+2+4):Int)=(g (4*(k+1)):Int)-(g (4*(k+1)+2):Int);rw [show 4*(k+1)=4*k+4 by omega,show 4*k+4+2=4*k+2+4 by omega]
theorem lVz (f x:Nat) (hf:f≤1):Tide.series f x=((List.range 16).map fun k=>(tm x (f+4*k):Int)-(tm x (f+4*k+2):Int)).sum:=by
 unfold Tide.series;have h:=f1z x 65 0;rw [show arcTerms x 65 0 (2 ^ Tide.BITS)=arcTerms x 65 0 (tm x 0) from rfl,h];have e:(((List.range 65).map fun i=>tm x (0+i)).drop f).take 64=(List.range (4*16)).map fun i=>tm x (f+i):=by
  rcases Nat.le_one_iff_eq_zero_or_eq_one.mp hf with rfl | rfl
  ·rw [List.drop_zero,← List.map_take]
   rfl
  ·rw [← List.map_drop,← List.map_take]
   rw [show (List.take 64 (List.drop 1 (List.range 65)))=(List.range 64).map (fun i=>1+i) by decide +kernel,List.map_map];refine List.map_congr_left fun i _=>?_;show tm x (0+(1+i))=tm x (1+i);rw [Nat.zero_add]
 rw [e,aQz];refine congrArg List.sum (List.map_congr_left fun k _=>?_);rw [Nat.add_assoc]
theorem jDz (f:Nat→Int) (N:Nat) (h:∀k,N≤k→k<16→f k=0) (hN:N≤16):((List.range 16).map f).sum=((List.range N).map f).sum:=by
 have key:∀d,N+d≤16→((List.range (N+d)).map f).sum=((List.range N).map f).sum:=by
  intro d
  induction d with
  | zero=>intro _;rfl
  | succ d ih =>
   intro hd;rw [← Nat.add_assoc,List.range_succ,List.map_append,List.sum_append,ih (by omega)];simp [h (N+d) (by omega) (by omega)]
 have:=key (16-N) (by omega)
 rwa [show N+(16-N)=16 by omega] at this
theorem pick4 (g:Nat→Int) (L f:Nat) (hL:L≤64) (hz:∀j,L≤j→j<64→g j=0) (hf:f≤3) :
  ∃ns:List Int,pickV ((List.range L).map fun i=>V.int (g i)) (some (f:Int)) none (some 4)=ns.map V.int∧ns.sum=((List.range 16).map fun k=>g (f+4*k)).sum:=by
 unfold pickV;rw [List.length_map,List.length_range];have hb:sliceBounds (some (f:Int)) none (some 4) L=(((min f L:Nat):Int),(L:Int),4):=by
  unfold sliceBounds
  simp
  omega
 rw [hb];dsimp only;have hr:sliceRange ((min f L:Nat):Int) (L:Int) 4=(List.range ((L-f+3)/4)).map fun k=>f+4*k:=by
  unfold sliceRange;dsimp only;rw [if_pos (show (4:Int) > 0 by decide)]
  by_cases h:f<L
  ·rw [if_pos (by omega),show min f L=f by omega,show (((L:Int)-(f:Int)+4-1)/4).toNat=(L-f+3)/4 by omega]
   refine List.map_congr_left fun k _=>?_;omega
  ·rw [if_neg (by omega),show (L-f+3)/4=0 by omega]
   rfl
 rw [hr];refine⟨(List.range ((L-f+3)/4)).map fun k=>g (f+4*k),?_,?_⟩
 ·have:∀N,(∀k,k<N→f+4*k<L)→((List.range N).map fun k=>f+4*k).filterMap (((List.range L).map fun i=>V.int (g i))[·]?)=((List.range N).map fun k=>g (f+4*k)).map V.int:=by
   intro N
   induction N with
   | zero=>intro _;rfl
   | succ N ih =>
    intro h;rw [List.range_succ,List.map_append,List.filterMap_append,ih fun k hk=>h k (by omega),List.map_append,List.map_append];refine congrArg (_ ++ ·) ?_;have hlt:=h N (by omega)
    have:((List.range L).map fun i=>V.int (g i))[f+4*N]?=some (V.int (g (f+4*N))):=by
     rw [List.getElem?_map,List.getElem?_range hlt];rfl
    rw [List.map_singleton,List.filterMap_cons_some this,List.filterMap_nil];rfl
  exact this _ fun k hk=>by omega
 ·rw [← jDz (fun k=>g (f+4*k)) ((L-f+3)/4) (fun k h1 h2=>hz _ (by omega) (by omega)) (by omega)]
theorem tm_le {x:Nat} (hx:x≤2 ^ 193):∀k,tm x k≤2 ^ (192+k)
 | 0=>Nat.le_refl _
 | k+1=>by
  have ih:=tm_le hx k;show tm x k*x/2 ^ 192/(k+1)≤_;refine Nat.le_trans (Nat.div_le_self _ _) ?_;refine Nat.div_le_of_le_mul ?_;refine Nat.le_trans (Nat.mul_le_mul ih hx) (Nat.le_of_eq ?_);rw [← Nat.pow_add,← Nat.pow_add];congr 1;omega
theorem vLz {x k:Nat} (h:tm x k=0):∀d,tm x (k+d)=0
 | 0=>h
 | d+1=>by
  show tm x (k+d)*x/2 ^ 192/(k+d+1)=0;rw [vLz h d,Nat.zero_mul,Nat.zero_div]
def tmV (x:Nat) (i:Nat):V := .int (tm x i:Nat)
theorem gQ:aI ["arc","term","terms"] ["arc"] (defScope uO):=by walk_at "s"
inductive rQ (vs:List V) (H:Hp) (Q:VK) (_E:XK):Prop
 | mk (x:Nat) (_:vs=[.int (x:Int)]) (_:x≤2 ^ 193) (_:∀L D,L≤64→(∀j,L≤j→j<64→tm x j=0)→H D=none→Q (.ref D) (upd H D (.lst ((List.range L).map (tmV x))))):rQ vs H Q _E
theorem eRz (T:Txt K mg a):Ok P w K mg base 1 a.nU ["arc"] rQ:=by
 refine bD T.gCz gQ ?b ?l ?h;walk_at "o"
 ·obtain⟨x,rfl,_⟩:=h;rfl
 ·obtain⟨x,rfl,hx,k⟩:=h
  refine⟨_,(aB (aP (i:=1) gQ.nd rfl (Or.inl rfl) (aZ AQz aT (gI T.sKz)))
   (aB (aP (i:=2) gQ.nd rfl (Or.inl rfl) (dM (aA (pv 1) aD)))
   (aB (mU PassesOwn.leaving (PW.pt (rUz (aY gQz (pv 1) aT (nomark _)) (jPz (aY mTz (bH bT (by rfl) T.mX nI (aA (pv 2) aD)) (gI T.pXz) (nomark _)))))
    (aB (aP (i:=1) gQ.nd rfl (Or.inl rfl) (aZ kQ (aZ APz (aZ dC (pv 1) (pv 0)) (gI T.sKz)) (bH bT (by rfl) T.mX nI (aA (pv 2) aD))))
   (aE (aU (kP PySem.F.plainAttrs_list PySem.F.slot_list_append PySem.F.type_list_append hJ (pv 2) (aA (pv 1) aD))))))
   (aE (aR (pv 2)))))),?_⟩
  refine⟨_,_,rfl,rfl,⟨by decide,by decide,by decide⟩,?_⟩;dsimp only [gName];refine⟨_,rfl,by decide,fun D hD=>?_⟩;refine⟨fun m σ H'=>∃n,n≤63∧m=63-n∧σ = [some (.int (x:Int)),some (tmV x n),some (.ref D)]∧H'=upd H D (.lst ((List.range (n+1)).map (tmV x))),⟨63,0,by decide,rfl,?_,?_⟩,?_⟩
  ·rfl
  ·rfl
  ·rintro m σ H' ⟨n,hn,rfl,rfl,rfl⟩
   have hb:tm x n<2 ^ 1000:=Nat.lt_of_le_of_lt (tm_le hx n) (Nat.pow_lt_pow_right (by decide) (by omega));have hx2:x<2 ^ 1000:=Nat.lt_of_le_of_lt hx (Nat.pow_lt_pow_right (by decide) (by decide));have hlen:((List.range (n+1)).map (tmV x)).length=n+1:=by rw [List.length_map,List.length_range]
   refine⟨_,rfl,_,_,rfl,rfl,_,rfl,?_⟩
   by_cases h0:tm x n=0
   ·rw [decide_eq_false (by rw [h0];decide)]
    refine iteF (iteF ⟨_,rfl,k (n+1) D (by omega) (fun j h1 _=>?_) hD⟩);rw [show j=n+(j-n) by omega];exact vLz h0 _
   ·rw [decide_eq_true (by omega)]
    refine iteT ⟨_,rfl,D,_,rfl,.inl (SqL.of aC),_,_,rfl,rfl,_,rfl,?_⟩;rw [hlen]
    by_cases h6:n=63
    ·rw [decide_eq_false (by omega)]
     exact iteF ⟨_,rfl,k (n+1) D (by omega) (fun j h1 h2=>by omega) hD⟩
    ·rw [decide_eq_true (by omega)]
     have e:((tm x n:Nat):Int)*(x:Int)/2 ^ Int.toNat 192/((n+1:Nat):Int)=((tm x (n+1):Nat):Int):=by
      show _=((tm x n*x/2 ^ 192/(n+1):Nat):Int);rw [Int.natCast_ediv,Int.natCast_ediv,Int.natCast_mul];rfl
     refine iteT ⟨fun σ' H'=>∃m',m'<63-n∧∃n,n≤63∧m'=63-n∧σ'=[some (.int (x:Int)),some (tmV x n),some (.ref D)]∧H'=upd H D (.lst ((List.range (n+1)).map (tmV x))),fun _ _ z=>z,?_⟩;refine⟨_,rfl,_,rfl,_,_,rfl,rfl,⟨by rw [Int.natAbs_natCast];exact hb,by rw [Int.natAbs_natCast];exact hx2⟩,_,_,rfl,rfl,(by show (0:Int)≤192;decide),_,rfl,D,_,rfl,.inl (SqL.of aC),?_⟩;rw [hlen];refine⟨_,_,rfl,rfl,⟨by omega,Int.lt_of_lt_of_le (show ((n+1:Nat):Int)<100 by omega) (by decide)⟩,?_⟩;show gName 1 (V.int (_/_)) _ _ _;rw [e];refine⟨_,rfl,.inl ⟨rfl,_,SqL.of aC⟩,_,rfl,D,_,_,rfl,rfl,aC,(by rw [hlen,sizeLine_eq];omega),63-(n+1),by omega,n+1,by omega,rfl,rfl,?_⟩;rw [cE,List.range_succ (n:=n+1),List.map_append];rfl
theorem lZz:aI ["arc","first","terms"] ["arc","first"] (defScope rQz):=by walk_at "s"
inductive lLz (vs:List V) (H:Hp) (Q:VK) (_E:XK):Prop
 | mk (x f:Nat) (_:vs=[.int (x:Int),.int (f:Int)]) (_:x≤2 ^ 193) (_:f≤1) (_:∀H',Same H H'→Q (.int (Tide.series f x)) H'):lLz vs H Q _E
theorem vOz (f g:Nat→Int):∀l:List Nat,(l.map f).sum-(l.map g).sum=(l.map fun k=>f k-g k).sum
 | []=>rfl
 | x::r=>by
  simp only [List.map_cons,List.sum_cons];rw [← vOz f g r];omega
theorem wKz (T:Txt K mg a):Ok P w K mg base 2 a.kIz ["arc","first"] lLz:=by
 have hFz := @eRz P w K mg base a T;refine bD T.y1z lZz ?b ?l ?h;walk_at "o"
 ·obtain⟨x,f,rfl,_⟩:=h;rfl
 ·obtain⟨x,f,rfl,hx,hf,k⟩:=h
  refine⟨_,(aB (aP (i:=2) lZz.nd rfl (Or.inl rfl) (pc hFz (hr.mono (by decide)) (by rfl) T.gZz passN (aA (pv 0) aD)))
   (aE (aR (aZ oV (bH (fWz rfl) (by rfl) T.eWz fZz (aA (mOz (pv 2) (sD (pv 1)) wEz (sD aT)) aD)) (bH (fWz rfl) (by rfl) T.eWz fZz (aA (mOz (pv 2) (sD (aZ gN (pv 1) aT)) wEz (sD aT)) aD)))))),?_⟩
  refine⟨_,rfl,x,rfl,hx,fun L D hL hz hD=>?_⟩;dsimp only [gName];obtain⟨ns,e1,s1⟩:=pick4 (fun i=>(tm x i:Nat)) L f hL (fun j h1 h2=>by rw [hz j h1 h2];rfl) (by omega);obtain⟨ms,e2,s2⟩:=pick4 (fun i=>(tm x i:Nat)) L (f+2) hL (fun j h1 h2=>by rw [hz j h1 h2];rfl) (by omega);refine⟨_,rfl,_,rfl,_,rfl,_,rfl,D,_,rfl,SqL.of aC,by decide,fun p hp=>?_⟩;refine⟨p,ns,rfl,SqL.of ?_,_,rfl,_,rfl,_,_,rfl,rfl,_,rfl,_,rfl,D,_,rfl,SqL.of (aF hp _ _ aC),by decide,fun p2 hp2=>?_⟩
  ·rw [aC]
   exact congrArg (fun z=>some (HO.lst z)) e1
  ·refine⟨p2,ms,rfl,SqL.of ?_,_,_,rfl,rfl,?_⟩
   ·rw [aC]
    exact congrArg (fun z=>some (HO.lst z)) e2
   ·have e3:(fun k:Nat=>(tm x (f+4*k+2):Int))=fun k:Nat=>(tm x (f+2+4*k):Int):=by
     funext k;rw [show f+4*k+2=f+2+4*k by omega]
    have e4:ns.sum-ms.sum=Tide.series f x:=by
     rw [s1,s2,lVz f x hf,← vOz,e3]
    show Q (V.int (ns.sum-ms.sum)) _;rw [e4];exact k _ ((aF hD (o := .lst ((List.range L).map (tmV x)))).trans ((aF hp).trans (aF hp2)))
theorem v8z {r:Nat} (h:r≤2 ^ 32):Tide.QUARTER*r/2 ^ 32≤2 ^ 193:=by
 refine Nat.div_le_of_le_mul ?_;refine Nat.le_trans (Nat.mul_le_mul (show Tide.QUARTER≤2 ^ 193 by decide) h) ?_;rw [Nat.mul_comm];exact Nat.le_refl _
theorem tX:aI ["rest"] ["rest"] (defScope lJ):=by walk_at "s"
inductive kD (vs:List V) (H:Hp) (Q:VK) (_E:XK):Prop
 | mk (r:Nat) (_:vs=[.int (r:Int)]) (_:r≤2 ^ 32) (_:∀H',Same H H'→Q (.int (quarterCos r (2 ^ 32))) H'):kD vs H Q _E
theorem tZ (T:Txt K mg a):Ok P w K mg base 3 a.gJ ["rest"] kD:=by
 have tCz := @wKz P w K mg base a T;refine bD T.vJ tX ?b ?l ?h;walk_at "o"
 ·obtain⟨r,rfl,_⟩:=h;rfl
 ·obtain⟨r,rfl,hr2,k⟩:=h
  refine⟨_,(aB (dE (aY mTz (aZ dC aT (pv 0)) (gI T.hX) (nomark _)) (aE (aR (pc tCz (hr.mono (by decide)) (by rfl) T.sOz passN (aA (aZ kQ (aZ dC (gI T.nLz) (pv 0)) (gI T.hX)) (aA aT aD))))) bA)
   (aE (aR (pc tCz (hr.mono (by decide)) (by rfl) T.sOz passN (aA (aZ kQ (aZ dC (gI T.nLz) (aZ oV (gI T.hX) (pv 0))) (gI T.hX)) (aA aT aD)))))),?_⟩
  have hcm:∀(i j:Int),i.natAbs<2 ^ 200→j.natAbs<2 ^ 200→yXz i j:=fun i j h1 h2=>⟨Nat.lt_of_lt_of_le h1 (Nat.pow_le_pow_right (by decide) (by decide)),Nat.lt_of_lt_of_le h2 (Nat.pow_le_pow_right (by decide) (by decide))⟩;have hq:(9860048348863269281198066682114134445731725432595044866280:Int)=(Tide.QUARTER:Nat):=rfl;have key:∀(n:Nat),n≤2 ^ 32→(Tide.QUARTER:Int)*(n:Int)/4294967296=((Tide.QUARTER*n/2 ^ 32:Nat):Int):=fun n _=>by
   rw [Int.natCast_ediv,Int.natCast_mul];rfl
  refine⟨_,rfl,_,_,rfl,rfl,hcm _ _ (by decide) (by rw [Int.natAbs_natCast];exact Nat.lt_of_le_of_lt hr2 (by decide)),_,_,rfl,rfl,_,rfl,?_⟩
  by_cases h2:2*r≤2 ^ 32
  ·rw [decide_eq_true (by omega)]
   refine iteT ⟨_,rfl,_,_,rfl,rfl,hcm _ _ (by decide) (by rw [Int.natAbs_natCast];exact Nat.lt_of_le_of_lt hr2 (by decide)),_,_,rfl,rfl,⟨by decide,by decide⟩,Tide.QUARTER*r/2 ^ 32,0,?_,v8z hr2,by decide,fun H' s=>?_⟩
   ·show [V.int (9860048348863269281198066682114134445731725432595044866280*(r:Int)/4294967296),V.int 0]=_
    rw [hq,key r hr2];rfl
   ·have:=k H' s
    unfold quarterCos at this;rw [if_pos h2] at this;exact this
  ·rw [decide_eq_false (by omega)]
   have e2:(4294967296:Int)-(r:Int)=((2 ^ 32-r:Nat):Int):=by omega
   refine iteF ⟨_,rfl,_,_,rfl,rfl,_,_,rfl,rfl,hcm _ _ (by decide) (by rw [e2,Int.natAbs_natCast];exact Nat.lt_of_le_of_lt (Nat.sub_le _ _) (by decide)),_,_,rfl,rfl,⟨by decide,by decide⟩,Tide.QUARTER*(2 ^ 32-r)/2 ^ 32,1,?_,v8z (Nat.sub_le _ _),by decide,fun H' s=>?_⟩
   ·show [V.int (9860048348863269281198066682114134445731725432595044866280*(4294967296-(r:Int))/4294967296),V.int 1]=_
    rw [hq,e2,key _ (Nat.sub_le _ _)];rfl
   ·have:=k H' s
    unfold quarterCos at this;rw [if_neg h2] at this;exact this
theorem iK:aI ["angle","quarters","rest"] ["angle"] (defScope rC):=by walk_at "s"
inductive oH (vs:List V) (H:Hp) (Q:VK) (_E:XK):Prop
 | mk (n:Nat) (_:vs=[.int (n:Int)]) (_:n<2 ^ 32) (_:∀H',Same H H'→Q (.int (cosAt n (2 ^ 32))) H'):oH vs H Q _E
theorem pYz (n:Nat) (m:Nat):decide (V.int (n:Int)=V.int (m:Int))=decide (n=m):=by
 by_cases h:n=m
 ·rw [decide_eq_true h,h];exact decide_eq_true rfl
 ·rw [decide_eq_false h];exact decide_eq_false fun z=>h (by have:=V.int.inj z;omega)
theorem zP (T:Txt K mg a):Ok P w K mg base 4 a.jW ["angle"] oH:=by
 have eN := @tZ P w K mg base a T;refine bD T.b2z iK ?b ?l ?h;walk_at "o"
 ·obtain⟨n,rfl,_⟩:=h;rfl
 ·obtain⟨n,rfl,hn,k⟩:=h
  refine⟨_,(aB (aP (i:=1) iK.nd rfl (Or.inl rfl) (aZ kQ (aZ dC aT (pv 0)) (gI T.hX)))
   (aB (aP (i:=2) iK.nd rfl (Or.inl rfl) (aZ mRz (aZ dC aT (pv 0)) (gI T.hX)))
   (aB (dE (aY gW (pv 1) aT (nomark _)) (aE (aR (pc eN (hr.mono (by decide)) (by rfl) T.eK passN (aA (pv 2) aD)))) bA)
   (aB (dE (aY gW (pv 1) aT (nomark _)) (aE (aR (jUz xA (pc eN (hr.mono (by decide)) (by rfl) T.eK passN (aA (aZ oV (gI T.hX) (pv 2)) aD))))) bA)
   (aB (dE (aY gW (pv 1) aT (nomark _)) (aE (aR (jUz xA (pc eN (hr.mono (by decide)) (by rfl) T.eK passN (aA (pv 2) aD))))) bA)
   (aE (aR (pc eN (hr.mono (by decide)) (by rfl) T.eK passN (aA (aZ oV (gI T.hX) (pv 2)) aD))))))))),?_⟩
  have hcm:yXz 4 (n:Int):=⟨by decide,by rw [Int.natAbs_natCast];exact Nat.lt_trans hn (Nat.pow_lt_pow_right (by decide) (by decide))⟩;have eq:(4:Int)*(n:Int)/4294967296=((4*n/2 ^ 32:Nat):Int):=by omega
  have er:(4:Int)*(n:Int)%4294967296=((4*n%2 ^ 32:Nat):Int):=by omega
  unfold cosAt at k;dsimp only at k;rw [Nat.mod_eq_of_lt hn,show 4*n-4*n/2 ^ 32*2 ^ 32=4*n%2 ^ 32 by omega] at k;have hq4:4*n/2 ^ 32<4:=by omega
  have hr32:4*n%2 ^ 32<2 ^ 32:=Nat.mod_lt _ (by decide);refine⟨_,rfl,_,_,rfl,rfl,hcm,_,_,rfl,rfl,⟨by decide,by decide⟩,?_⟩;show gName 1 (V.int (_/_)) _ _ _;rw [eq];refine⟨_,rfl,_,_,rfl,rfl,hcm,_,_,rfl,rfl,(by show (0:Int)<4294967296;decide),?_⟩;show gName 2 (V.int (_%_)) _ _ _;rw [er];generalize 4*n/2 ^ 32=q at *;generalize 4*n%2 ^ 32=r at *;have e2:(4294967296:Int)-(r:Int)=((2 ^ 32-r:Nat):Int):=by omega
  refine⟨_,rfl,rfl,_,rfl,?_⟩;rw [show (0:Int)=((0:Nat):Int) from rfl,pYz]
  by_cases h0:q=0
  ·rw [decide_eq_true h0]
   refine iteT ⟨_,rfl,r,rfl,Nat.le_of_lt hr32,fun H' s=>?_⟩
   have:=k H' s
   rw [if_pos h0] at this;exact this
  rw [decide_eq_false h0];rw [if_neg h0] at k;refine iteF ⟨_,rfl,rfl,_,rfl,?_⟩;rw [show (1:Int)=((1:Nat):Int) from rfl,pYz]
  by_cases h1:q=1
  ·rw [decide_eq_true h1]
   refine iteT ⟨_,rfl,_,_,rfl,rfl,2 ^ 32-r,?_,Nat.sub_le _ _,fun H' s=>?_⟩
   ·exact congrArg (fun z=>[V.int z]) e2
   have:=k H' s
   rw [if_pos h1] at this;exact⟨_,rfl,this⟩
  rw [decide_eq_false h1];rw [if_neg h1] at k;refine iteF ⟨_,rfl,rfl,_,rfl,?_⟩;rw [show (2:Int)=((2:Nat):Int) from rfl,pYz]
  by_cases h2:q=2
  ·rw [decide_eq_true h2]
   refine iteT ⟨_,rfl,r,rfl,Nat.le_of_lt hr32,fun H' s=>?_⟩
   have:=k H' s
   rw [if_pos h2] at this;exact⟨_,rfl,this⟩
  rw [decide_eq_false h2];rw [if_neg h2] at k;refine iteF ⟨_,rfl,_,_,rfl,rfl,2 ^ 32-r,?_,Nat.sub_le _ _,fun H' s=>k H' s⟩;exact congrArg (fun z=>[V.int z]) e2
theorem dZz:aI ["angle","fine","size"] ["angle"] (defScope rRz):=by walk_at "s"
inductive lNz (vs:List V) (H:Hp) (Q:VK) (_E:XK):Prop
 | mk (n:Nat) (_:vs=[.int (n:Int)]) (_:n<2 ^ 32) (_:∀H',Same H H'→Q (.int (C n)) H'):lNz vs H Q _E
theorem m2z (T:Txt K mg a):Ok P w K mg base 5 a.kKz ["angle"] lNz:=by
 have cOz := @zP P w K mg base a T;refine bD T.y2z dZz ?b ?l ?h;walk_at "o"
 ·obtain⟨n,rfl,_⟩:=h;rfl
 ·obtain⟨n,rfl,hn,k⟩:=h
  refine⟨_,(aB (aP (i:=1) dZz.nd rfl (Or.inl rfl) (pc cOz (hr.mono (by decide)) (by rfl) T.cFz passN (aA (pv 0) aD)))
   (aB (aP (i:=2) dZz.nd rfl (Or.inl rfl) (aZ APz (aZ gN (bH qQ (by rfl) T.eXz f0z (aA (pv 1) aD)) (aZ AQz aT (aZ oV (aZ oV (gI T.sKz) (gI T.iKz)) aT))) (aZ oV (gI T.sKz) (gI T.iKz))))
   (aE (aR (gU (aY mSz (pv 1) aT (nomark _)) (jUz xA (pv 2)) (pv 2)))))),?_⟩
  unfold C rounded at k;rw [show (Tide.TURN:Nat)=2 ^ 32 from rfl] at k;refine⟨_,rfl,n,rfl,hn,fun H' s=>?_⟩;have k:=k H' s;generalize cosAt n (2 ^ 32)=c at *;have e:((if c<0 then -c else c)+1*2 ^ ((192:Int)-30-1).toNat)/2 ^ ((192:Int)-30).toNat=(((c.natAbs+2 ^ (BITS-31))/2 ^ (BITS-30):Nat):Int):=by
   rw [qR,Int.natCast_ediv,Int.natCast_add,Int.one_mul];rfl
  refine⟨_,rfl,_,rfl,_,_,rfl,rfl,_,_,rfl,rfl,_,_,rfl,rfl,⟨by decide,by decide,by decide⟩,_,_,rfl,rfl,_,_,rfl,rfl,_,_,rfl,rfl,(by show (0:Int)≤192-30;decide),?_⟩;show gName 2 (V.int (_/_)) _ _ _;rw [e];refine⟨_,rfl,_,_,rfl,rfl,_,rfl,?_⟩
  by_cases h0:c<0
  ·rw [decide_eq_true h0]
   rw [if_pos h0] at k;exact iteT ⟨_,rfl,_,rfl,k⟩
  ·rw [decide_eq_false h0]
   rw [if_neg h0] at k;exact iteF ⟨_,rfl,k⟩
theorem S_C (n:Nat):S n=C ((n+3*2 ^ 30)%2 ^ 32):=by
 unfold S C cosAt;rw [show (Tide.TURN:Nat)=2 ^ 32 from rfl,Nat.mod_mod]
theorem BGz:aI ["angle"] ["angle"] (defScope AHz):=by walk_at "s"
inductive vTz (vs:List V) (H:Hp) (Q:VK) (_E:XK):Prop
 | mk (n:Nat) (_:vs=[.int (n:Int)]) (_:n<2 ^ 32) (_:∀H',Same H H'→Q (.int (S n)) H'):vTz vs H Q _E
theorem BYz (T:Txt K mg a):Ok P w K mg base 6 a.xWz ["angle"] vTz:=by
 have kSz := @m2z P w K mg base a T;refine bD T.u_sine BGz ?b ?l ?h;walk_at "o"
 ·obtain⟨n,rfl,_⟩:=h;rfl
 ·obtain⟨n,rfl,hn,k⟩:=h
  refine⟨_,(aE (aR (pc kSz (hr.mono (by decide)) (by rfl) T.sPz passN (aA (aZ mRz (aZ oV (pv 0) (gI T.xHz)) (gI T.hX)) aD)))),?_⟩;refine⟨_,rfl,_,_,rfl,rfl,_,_,rfl,rfl,(by show (0:Int)<4294967296;decide),(n+3*2 ^ 30)%2 ^ 32,?_,Nat.mod_lt _ (by decide),fun H' s=>?_⟩
  ·refine congrArg (fun z=>[V.int z]) ?_
   show ((n:Int)-1073741824)%4294967296=_;omega
  ·rw [← S_C]
   exact k H' s
theorem bUz {i:Int} {n:Nat} (h:i.natAbs≤2 ^ n) (hn:n<1000:=by decide):i.natAbs<2 ^ 1000:=Nat.lt_of_le_of_lt h (Nat.pow_lt_pow_right (by decide) hn)
inductive cC (a:Adr) (H:Hp) (c:Addr) (o g:Int):Prop
 | mk (dx) (_:H c=some (.ins a.jA dx (sR (.int o) (.int g)))):cC a H c o g
def Sd (H H':Hp):Prop := ∀b o,H b=some o→(∀kvs,o≠.dT kvs)→H' b=some o
theorem Sd.of {H H':Hp} (s:Same H H'):Sd H H':=fun b o h _=>s b o h
theorem Sd.put {H:Hp} {d:Addr} {kvs:List (List Key×V)} {o:HO} (h:H d=some (.dT kvs)):Sd H (upd H d o):=fun b u hb n=>by
 rw [aO fun z=>by rw [z,h] at hb;exact n _ (Option.some.inj hb).symm];exact hb
theorem cC.sd {H H':Hp} {c:Addr} {o g:Int} (h:cC a H c o g) (s:Sd H H'):cC a H' c o g:=let ⟨dx,h1⟩:=h;⟨dx,s _ _ h1 (by intro z;nofun)⟩
theorem cC.same {H H':Hp} {c:Addr} {o g:Int} (h:cC a H c o g) (s:Same H H'):cC a H' c o g:=h.sd (.of s)
theorem mGz:aI ["self","minute"] ["self","minute"] (defScope eKz):=by walk_at "s"
inductive a3z (a:Adr) (vs:List V) (H:Hp) (Q:VK) (_E:XK):Prop
 | mk (c o g t) (_:vs=[.ref c,.int t]) (_:cC a H c o g) (_:g.natAbs≤2 ^ 90) (_:t.natAbs≤2 ^ 90) (_:Q (.int (o+g*t)) H):a3z a vs H Q _E
theorem sF (T:Txt K mg a):Ok P w K mg base 1 a.gH ["self","minute"] (a3z a):=by
 refine bD T.oXz mGz ?b ?l ?h;walk_at "o"
 ·obtain⟨c,o,g,t,rfl,_⟩:=h;rfl
 ·obtain⟨c,o,g,t,rfl,⟨dx,h1⟩,hg,ht,k⟩:=h
  refine⟨_,(aE (aR (aZ gN (aM (pv 0) rfl) (aZ dC (aM (pv 0) rfl) (pv 1))))),?_⟩;exact⟨_,rfl,c,_,dx,_,_,rfl,h1,T.dU,T.gZ,jQ _ _,_,rfl,c,_,dx,_,_,rfl,h1,T.dU,T.dH,dO _ _,_,rfl,_,_,rfl,rfl,⟨bUz hg,bUz ht⟩,_,_,rfl,rfl,k⟩
theorem vNz (t:Term):sgn t.minus*(t.count:Int)=t.times:=by
 unfold sgn Term.times;cases t.minus
 ·show 1*(t.count:Int)=_;rw [Int.one_mul];rfl
 ·show -1*(t.count:Int)=_;rw [Int.neg_mul,Int.one_mul];rfl
inductive rP (a:Adr) (vs:List V) (H:Hp) (Q:VK) (_E:XK):Prop
 | mk (x t) (_:vs=[.ref x]) (_:pD a H x t) (_:t.count≤15) (_:Q (.int t.times) H):rP a vs H Q _E
theorem sE (T:Txt K mg a):Ok P w K mg base 1 a.nS ["term"] (rP a):=by
 refine bD T.gBz dYz ?b ?l ?h;walk_at "o"
 ·obtain⟨x,t,rfl,_⟩:=h;rfl
 ·obtain⟨x,t,rfl,⟨dx,nn,h1,h2⟩,hc,k⟩:=h
  refine⟨_,(aE (aR (aZ dC (aM (pv 0) rfl) (aM (pv 0) rfl)))),?_⟩;refine⟨_,rfl,x,_,dx,_,_,rfl,h1,T.fQ,T.vV,bRz _ _ _ _,_,rfl,x,_,dx,_,_,rfl,h1,T.fQ,T.jF,kU _ _ _ _,_,_,rfl,rfl,⟨?_,?_⟩,?_⟩
  ·cases t.minus <;> decide
  ·rw [Int.natAbs_natCast]
   exact Nat.lt_of_le_of_lt hc (Nat.lt_of_lt_of_le (show 15<2 ^ 4 by decide) (Nat.pow_le_pow_right (by decide) (by decide)))
  ·show Q (V.int (sgn t.minus*(t.count:Int))) H
   rw [vNz];exact k
def HD (F:Addr→Line→Prop) (kvs:List (List Key×V)) (b:List Line):Prop:=Paired (fun (p:List Key×V) l=>p.1=kOf l.name∧∃c,p.2 = .ref c∧F c l) kvs b
theorem HD.val {F:Addr→Line→Prop} {n:Bytes}:∀{kvs:List (List Key×V)} {b:List Line},HD F kvs b→(match b.find? fun l=>l.name == n with
  | some y=>∃c,valV kvs (kOf n)=some (.ref c)∧F c y
  | none=>valV kvs (kOf n)=none)
 | _,_,.nil=>rfl
 | _,_,.cons (a:=p) (b:=l) ⟨h1,c,h2,h3⟩ t=>by
  by_cases e:l.name=n
  ·rw [List.find?_cons_of_pos (by rw [e];exact beq_self_eq_true _)]
   exact⟨c,by rw [tI (by rw [h1,e]),h2],h3⟩
  ·rw [List.find?_cons_of_neg (by intro z;exact e (eq_of_beq z)),tK (by intro z;rw [h1] at z;exact e (kBz z))]
   exact HD.val t
theorem HD.map {F G:Addr→Line→Prop} {kvs:List (List Key×V)} {b:List Line} (h:HD F kvs b) (f:∀c l,F c l→G c l):HD G kvs b:=Paired.mapP h fun _ _ z=>⟨z.1,let ⟨c,e,q⟩:=z.2;⟨c,e,f _ _ q⟩⟩
def crs (a:Adr) (H:Hp) (L:List Line) (c:Addr) (l:Line):Prop:=cC a H c (org L l) (gro L l)
theorem vPz (l:List Int):l.sum=sumInt l:=rfl
theorem lJz {α : Type} (f g : α→Int):∀s:List α,sumInt (s.map fun x=>f x-g x)=sumInt (s.map f)-sumInt (s.map g)
 | []=>rfl
 | x::r=>by
  have:=lJz f g r
  show f x-g x+sumInt (r.map fun x=>f x-g x)=f x+sumInt (r.map f)-(g x+sumInt (r.map g));omega
structure CT (a:Adr) (H:Hp) (L b:List Line) (d:Addr):Prop where
 sky:Sky L
 pre:∃r,L=b++r
 tab:∃kvs,H d=some (.dT kvs)∧HD (crs a H L) kvs b
def Has (b:List Line) (ts:List Term):Prop := ∀x∈ts,∃y∈b,y.name=x.name
theorem CT.get {H:Hp} {L b:List Line} {d nn:Addr} {x:Term} (C:CT a H L b d) (hx:∃y∈b,y.name=x.name) (hn:H nn=some (.tup (bV x.name))):∃c y,y∈L∧(L.find? fun l=>l.name == x.name)=some y∧DGet H d (.ref nn) (some (.ref c))∧crs a H L c y:=by
 obtain⟨kvs,h1,h2⟩:=C.tab;obtain⟨r,hr⟩:=C.pre;have hv:=h2.val (n:=x.name);cases hf:b.find? fun l=>l.name == x.name with
 | none =>
  obtain⟨y,hy,e⟩:=hx
  have:=List.find?_eq_none.mp hf y hy
  rw [e] at this;exact absurd (beq_self_eq_true _) this
 | some y =>
  rw [hf] at hv;obtain⟨c,e1,e2⟩:=hv;have hfL:(L.find? fun l=>l.name == x.name)=some y:=by rw [hr,List.find?_append,hf];rfl
  refine⟨c,y,List.mem_of_find?_eq_some hfL,hfL,?_,e2⟩;rw [← e1];exact DGet.t h1 (by rw [vF];exact hn)
theorem CT.same {H H':Hp} {L b:List Line} {d:Addr} (C:CT a H L b d) (s:Same H H'):CT a H' L b d:=⟨C.sky,C.pre,let ⟨kvs,h1,h2⟩:=C.tab;⟨kvs,s _ _ h1,h2.map fun _ _ z=>cC.same z s⟩⟩
theorem cF:aI ["terms","courses","origin","growth","term"] ["terms","courses"] (defScope oP):=by walk_at "s"
inductive mM (a:Adr) (vs:List V) (H:Hp) (Q:VK) (_E:XK):Prop
 | mk (l ts d b L) (_:vs=[.ref l,.ref d]) (_:eX a H l ts) (_:hEz ts) (_:CT a H L b d) (_:Has b ts) (_:∀H' c,Same H H'→cC a H' c (TA L ts 0) (TA L ts 1-TA L ts 0)→Q (.ref c) H'):mM a vs H Q _E
theorem mW (T:Txt K mg a):Ok P w K mg base 3 a.iR ["terms","courses"] (mM a):=by
 have jB := @sE P w K mg base a T;have dAz := @m7z P w K mg base a T;refine bD T.zB cF ?b ?l ?h;walk_at "o"
 ·obtain⟨l,ts,d,b,L,rfl,_⟩:=h;rfl
 ·obtain⟨l,ts,d,b,L,rfl,⟨as,hl,hTs⟩,hok,hC,hHas,k⟩:=h
  refine⟨_,(aB (aP (i:=2) cF.nd rfl (Or.inl rfl) (bH (fWz rfl) (by rfl) T.eWz fZz (aA (jVz (own:=[("term",4)]) rfl cF.nd (eT (pv 0)) (kW (by rfl)) (fun _ _ _ _ _=>(cZ (i:=4) cF.nd rfl (Or.inl rfl))) (fun _ _ _ _ _=>sC) (fun _ _ _ _ _=>(aZ dC (pc jB (hr.mono (by decide)) (by rfl) T.nR passN (aA (pv 4) aD)) (jL (K:=K) (jXz (fFz hr) (pv 1) (jL (K:=K) (pv 4) rfl) (fun _ _=>rfl)) rfl)))) aD)))
   (aB (aP (i:=3) cF.nd rfl (Or.inl rfl) (bH (fWz rfl) (by rfl) T.eWz fZz (aA (jVz (own:=[("term",4)]) rfl cF.nd (eT (pv 0)) (kW (by rfl)) (fun _ _ _ _ _=>(cZ (i:=4) cF.nd rfl (Or.inl rfl))) (fun _ _ _ _ _=>sC) (fun _ _ _ _ _=>(aZ dC (pc jB (hr.mono (by decide)) (by rfl) T.nR passN (aA (pv 4) aD)) (jL (K:=K) (jXz (fFz hr) (pv 1) (jL (K:=K) (pv 4) rfl) (fun _ _=>rfl)) rfl)))) aD)))
   (aE (aR (pn T.eYz dAz (hr.mono (by decide)) (by rfl) T.kFz passN (aA (pv 2) (aA (pv 3) aD))))))),?_⟩
  have hlb:as.length=ts.length:=Paired.length hTs;refine⟨_,rfl,⟨l,rfl,⟨_,SqL.of hl⟩,fun D hD=>?_⟩⟩;refine wD (K:=K) (l:=l) (xs:=as.map V.ref) (g:=gName 4) (tt:=tYes) (vs:=[4]) (σ := [some (.ref l),some (.ref d),none,none,none]) (fun i H'=>H'=upd H D (.lst (((ts.take i).map fun x:Term=>x.times*AN L x.name 0).map V.int))) rfl (fun i H' _ e=>by subst e;exact SqL.of (aF hD _ _ hl)) (fun H' e=>?_) ?_
  ·subst e
   rw [List.length_map,hlb,List.take_length];refine⟨D,_,rfl,SqL.of aC,?_⟩;dsimp only [gName];have s1:Same H (upd H D (.lst ((ts.map fun x:Term=>x.times*AN L x.name 0).map V.int))):=aF hD;generalize upd H D (.lst ((ts.map fun x:Term=>x.times*AN L x.name 0).map V.int))=H1 at *;have hC1:=hC.same s1;refine⟨_,rfl,⟨l,rfl,⟨_,SqL.of (s1 _ _ hl)⟩,fun D2 hD2=>?_⟩⟩;refine wD (K:=K) (l:=l) (xs:=as.map V.ref) (g:=gName 4) (tt:=tYes) (vs:=[4]) (σ := [some (.ref l),some (.ref d),some (.int (ts.map fun x:Term=>x.times*AN L x.name 0).sum),none,none]) (fun i H'=>H'=upd H1 D2 (.lst (((ts.take i).map fun x:Term=>x.times*(AN L x.name 1-AN L x.name 0)).map V.int))) rfl (fun i H' _ e=>by subst e;exact SqL.of (aF hD2 _ _ (s1 _ _ hl))) (fun H' e=>?_) ?_
   ·subst e
    rw [List.length_map,hlb,List.take_length];refine⟨D2,_,rfl,SqL.of aC,?_⟩;dsimp only [gName];have s2:Same H (upd H1 D2 (.lst ((ts.map fun x:Term=>x.times*(AN L x.name 1-AN L x.name 0)).map V.int))):=s1.trans (aF hD2);generalize upd H1 D2 (.lst ((ts.map fun x:Term=>x.times*(AN L x.name 1-AN L x.name 0)).map V.int))=H2 at *;refine⟨_,rfl,_,rfl,fun x dx nx ndx hne=>⟨x,dx,_,_,rfl,aC,rfl,?_⟩⟩;rw [kJ];refine k _ x (s2.trans (dS nx ndx)) ⟨dx,?_⟩;rw [iH];have e2:(ts.map fun x:Term=>x.times*(AN L x.name 1-AN L x.name 0)).sum=Ts.TA L ts 1-Ts.TA L ts 0:=by
     rw [vPz];unfold Ts.TA;rw [← lJz];exact xE fun x _=>Int.mul_sub ..
    rw [← e2];rfl
   ·rintro i y H' hi rfl
    obtain⟨x,hx,rfl⟩:=eI hi;obtain⟨t,ht,dx,nn,g1,g2⟩:=Paired.at_ hTs hx;have hm:=List.mem_of_getElem? ht;have hcn:=hok.cnts t hm;have s3:=s1.trans (aF (o := .lst (((ts.take i).map fun x:Term=>x.times*(AN L x.name 1-AN L x.name 0)).map V.int)) hD2);obtain⟨c,ln,hln,hfn,hdg,dxc,hc⟩:=(hC.same s3).get (hHas t hm) (s3 _ _ g2);have hbd:=oU hC.sky.ok (hC.sky.ok ln hln);refine⟨rfl,?_⟩;simp only [tYes,if_true];refine⟨_,rfl,x,t,rfl,⟨dx,nn,s3 _ _ g1,s3 _ _ g2⟩,hcn.2,_,rfl,_,rfl,x,_,dx,_,_,rfl,s3 _ _ g1,T.fQ,T.iN,jG _ _ _ _,d,_,rfl,hdg,c,_,dxc,_,_,rfl,hc,T.dU,T.dH,dO _ _,_,_,rfl,rfl,⟨?_,bUz hbd.2⟩,_,aC,?_,?_⟩
    ·rw [jD]
     exact Nat.lt_of_le_of_lt hcn.2 (Nat.lt_of_lt_of_le (show 15<2 ^ 4 by decide) (Nat.pow_le_pow_right (by decide) (by decide)))
    ·rw [List.length_map,List.length_map,List.length_take,sizeLine_eq]
     have:=hok.len.2
     omega
    ·rw [cE,bQ ht,List.map_append,List.map_append]
     congr 3;show [V.int (t.times*gro L ln)]=[V.int (t.times*(AN L t.name 1-AN L t.name 0))];unfold AN gro;rw [hfn]
  ·rintro i y H' hi rfl
   obtain⟨x,hx,rfl⟩:=eI hi;obtain⟨t,ht,dx,nn,g1,g2⟩:=Paired.at_ hTs hx;have hm:=List.mem_of_getElem? ht;have hcn:=hok.cnts t hm;have s3:=aF (o := .lst (((ts.take i).map fun x:Term=>x.times*AN L x.name 0).map V.int)) hD;obtain⟨c,ln,hln,hfn,hdg,dxc,hc⟩:=(hC.same s3).get (hHas t hm) (s3 _ _ g2);have hbd:=oU hC.sky.ok (hC.sky.ok ln hln);refine⟨rfl,?_⟩;simp only [tYes,if_true];refine⟨_,rfl,x,t,rfl,⟨dx,nn,s3 _ _ g1,s3 _ _ g2⟩,hcn.2,_,rfl,_,rfl,x,_,dx,_,_,rfl,s3 _ _ g1,T.fQ,T.iN,jG _ _ _ _,d,_,rfl,hdg,c,_,dxc,_,_,rfl,hc,T.dU,T.gZ,jQ _ _,_,_,rfl,rfl,⟨?_,bUz hbd.1⟩,_,aC,?_,?_⟩
   ·rw [jD]
    exact Nat.lt_of_le_of_lt hcn.2 (Nat.lt_of_lt_of_le (show 15<2 ^ 4 by decide) (Nat.pow_le_pow_right (by decide) (by decide)))
   ·rw [List.length_map,List.length_map,List.length_take,sizeLine_eq]
    have:=hok.len.2
    omega
   ·rw [cE,bQ ht,List.map_append,List.map_append]
    congr 3;show [V.int (t.times*org L ln)]=[V.int (t.times*AN L t.name 0)];unfold AN org;rw [hfn]
theorem lD {i:Int} {n:Nat} (h:i.natAbs<n) (hn:n≤2 ^ 200:=by decide):i.natAbs<2 ^ 1000:=Nat.lt_of_lt_of_le h (Nat.le_trans hn (Nat.pow_le_pow_right (by decide) (by decide)))
theorem rBz {L b r:List Line} {l:Line} (S:Sky L) (e:L=b++l::r) {s:List Term} (h:∀x∈s,x∈l.uses):Has b s:=fun x hx=>let ⟨y,h1,_,h3⟩:=S.used e (h x hx);⟨y,h1,h3⟩
theorem pUz {L b r:List Line} {y:Line} (e:L=b++r) (h:y∈b):y∈L:=by rw [e];exact List.mem_append_left _ h
theorem tDz {L b r:List Line} {n:Bytes} {p:Nat} {s:List Term} {q:Nat} {fs ss:List Part} (S:Sky L) (e:L=b ++ .wave n p s q fs ss::r) {x:Term} (hx:x∈(Line.wave n p s q fs ss).uses):∃y∈L,y.isAngle=true∧y.name=x.name:=let ⟨y,h1,h2,h3⟩:=S.used e hx;⟨y,pUz e h1,h2,h3⟩
theorem oN:aI ["line","courses","course"] ["line","courses"] (defScope rB):=by walk_at "s"
inductive oG (a:Adr) (vs:List V) (H:Hp) (Q:VK) (_E:XK):Prop
 | mk (x l d b r L) (_:vs=[.ref x,.ref d]) (_:fS a H x l) (_:L=b++l::r) (_:CT a H L b d) (_:∀H' c,Same H H'→crs a H' L c l→Q (.ref c) H'):oG a vs H Q _E
theorem zO (T:Txt K mg a):Ok P w K mg base 4 a.jV ["line","courses"] (oG a):=by
 have iU := @mW P w K mg base a T;have dAz := @m7z P w K mg base a T;refine bD T.b1z oN ?b ?l ?h;walk_at "o"
 ·obtain⟨x,l,d,b,r,L,rfl,_⟩:=h;rfl
 ·obtain⟨x,l,d,b,r,L,rfl,hL,hLb,hC,k⟩:=h
  refine⟨_,(aB (dE (aY gW (aM (pv 0) rfl) (gS T.sL) (nomark _)) (aE (aR (pn T.eYz dAz (hr.mono (by decide)) (by rfl) T.kFz passN (aA (aZ dC (gI T.AUz) (aM (pv 0) rfl)) (aA (aM (pv 0) rfl) aD))))) bA)
   (aB (aP (i:=2) oN.nd rfl (Or.inl rfl) (pc iU (hr.mono (by decide)) (by rfl) T.oX passN (aA (aM (pv 0) rfl) (aA (pv 1) aD))))
   (aB (dE (aY gW (aM (pv 0) rfl) (gS T.bPz) (nomark _)) (aE (aR (pn T.eYz dAz (hr.mono (by decide)) (by rfl) T.kFz passN (aA (aZ gN (aM (pv 2) rfl) (aZ dC (gI T.zOz) (aM (pv 0) rfl))) (aA (aM (pv 2) rfl) aD))))) bA)
   (aE (aR (pv 2)))))),?_⟩
  have hok:dW l:=hC.sky.ok l (by rw [hLb];exact List.mem_append_right _ (List.mem_cons_self ..));have hnd:=hC.sky.right.names;cases l with
  | angle n p ph rt =>
   obtain⟨dx,nn,h1,h2⟩:=hL;cases hok with
   | angle hn hx hy =>
   refine⟨_,rfl,x,_,dx,_,_,rfl,h1,T.bI,T.cO,dF _ _ _ _,rfl,_,rfl,?_⟩;rw [w_aa];refine iteT ⟨_,rfl,x,_,dx,_,_,rfl,h1,T.bI,T.iO,nD _ _ _ _,_,_,rfl,rfl,⟨by decide,lD hx⟩,_,rfl,x,_,dx,_,_,rfl,h1,T.bI,T.jN,pA _ _ _ _,fun y dy nx ndx hne=>⟨y,dy,_,_,rfl,aC,rfl,?_⟩⟩;rw [kJ];refine k _ y (dS nx ndx) ⟨dy,?_⟩;rw [iH];have e1:org L (.angle n p ph rt)=60*ph:=by
    show 60*ph+rt*0=_;rw [Int.mul_zero,Int.add_zero]
   have e2:gro L (.angle n p ph rt)=rt:=by
    show 60*ph+rt*1-(60*ph+rt*0)=_;rw [Int.mul_zero,Int.mul_one];omega
   rw [e1,e2]
  | sum n p s =>
   obtain⟨dx,nn,lt,h1,h2,h3⟩:=hL;cases hok with
   | sum hn hs =>
   refine⟨_,rfl,x,_,dx,_,_,rfl,h1,T.bO,T.bX,cI _ _ _,rfl,_,rfl,?_⟩;rw [w_sa];refine iteF ⟨_,rfl,x,_,dx,_,_,rfl,h1,T.bO,T.dY,eQ _ _ _,_,rfl,lt,s,d,b,L,rfl,h3,hs,hC,rBz hC.sky hLb (fun x hx=>hx),fun H1 c s1 hc=>?_⟩;refine⟨_,rfl,x,_,dx,_,_,rfl,s1 _ _ h1,T.bO,T.bX,cI _ _ _,rfl,_,rfl,?_⟩;rw [DJz];refine iteF ⟨_,rfl,k _ c s1 ?_⟩
   have hT:∀t,Aof L (.sum n p s) t=Ts.TA L s t:=fun t=>qJz (n:=n) (p:=p) hnd (fun x hx=>by
    obtain⟨y,h1,h2,h3⟩:=hC.sky.used hLb (l := .sum n p s) hx;exact⟨y,pUz hLb h1,h2,h3⟩) t
   unfold crs org gro;rw [hT,hT];exact hc
  | wave n p s q fs ss =>
   obtain⟨dx,nn,lt,lf,ls,h1,h2,h3,h4,h5⟩:=hL;cases hok with
   | wave hn hs ht hf hg lnf lns =>
   refine⟨_,rfl,x,_,dx,_,_,rfl,h1,T.aV,T.bW,cP _ _ _ _ _ _,rfl,_,rfl,?_⟩;rw [w_wa];have hsu:∀x∈s,x∈(Line.wave n p s q fs ss).uses:=fun x hx=>List.mem_append_left _ hx;refine iteF ⟨_,rfl,x,_,dx,_,_,rfl,h1,T.aV,T.gD,iP _ _ _ _ _ _,_,rfl,lt,s,d,b,L,rfl,h3,hs,hC,rBz hC.sky hLb hsu,fun H1 c s1 ⟨dc,hc⟩=>?_⟩;refine⟨_,rfl,x,_,dx,_,_,rfl,s1 _ _ h1,T.aV,T.bW,cP _ _ _ _ _ _,rfl,_,rfl,?_⟩;rw [DIz];refine iteT ⟨_,rfl,c,_,dc,_,_,rfl,hc,T.dU,T.gZ,jQ _ _,_,rfl,x,_,dx,_,_,rfl,s1 _ _ h1,T.aV,T.gY,jP _ _ _ _ _ _,_,_,rfl,rfl,⟨by decide,?_⟩,_,_,rfl,rfl,_,rfl,c,_,dc,_,_,rfl,hc,T.dU,T.dH,dO _ _,fun y dy nx ndx hne=>⟨y,dy,_,_,rfl,aC,rfl,?_⟩⟩
   ·exact lD (n:=1000) (by rw [Int.natAbs_natCast];omega)
   rw [kJ];refine k _ y (s1.trans (dS nx ndx)) ⟨dy,?_⟩;rw [iH];have hA:∀t,Aof L (.wave n p s q fs ss) t=Ts.TA L s t+((q*(UNIT/4):Nat):Int):=fun t=>by
    show anglesAt L s t+_=_;rw [f2z hnd fun x hx=>tDz hC.sky hLb (hsu x hx)]
   have e1:org L (.wave n p s q fs ss)=Ts.TA L s 0+60000000000000*((90*q:Nat):Int):=by
    unfold org;rw [hA,show UNIT/4=5400000000000000 by decide];omega
   have e2:gro L (.wave n p s q fs ss)=Ts.TA L s 1-Ts.TA L s 0:=by
    unfold gro;rw [hA,hA];omega
   rw [e1,e2]
inductive wV (a:Adr) (H:Hp) (L:List Line) (x:Addr) (p:Part):Prop
 | mk (dx c) (_:H x=some (.ins a.vE dx (aEz (.int p.number) (.ref c)))) (_:cC a H c (anglesAt L p.sum 0) (anglesAt L p.sum 1-anglesAt L p.sum 0)):wV a H L x p
inductive mE (a:Adr) (H:Hp) (L:List Line) (l:Addr) (ps:List Part):Prop
 | mk (as:List Addr) (_:H l=some (.lst (as.map V.ref))) (_:Paired (wV a H L) as ps):mE a H L l ps
def Si (H H':Hp):Prop := ∀b C dx fs,H b=some (.ins C dx fs)→H' b=some (.ins C dx fs)
theorem Si.put {H:Hp} {l:Addr} {xs:List V} {o:HO} (h:H l=some (.lst xs)):Si H (upd H l o):=fun b _ _ _ hb=>by rw [aO (nBz hb h (by intro z;cases z))];exact hb
theorem cC.si {H H':Hp} {c:Addr} {o g:Int} (h:cC a H c o g) (s:Si H H'):cC a H' c o g:=let ⟨dx,h1⟩:=h;⟨dx,s _ _ _ _ h1⟩
theorem wV.si {H H':Hp} {L:List Line} {x:Addr} {p:Part} (h:wV a H L x p) (s:Si H H'):wV a H' L x p:=let ⟨dx,c,h1,h2⟩:=h;⟨dx,c,s _ _ _ _ h1,h2.si s⟩
theorem wV.sd {H H':Hp} {L:List Line} {x:Addr} {p:Part} (h:wV a H L x p) (s:Sd H H'):wV a H' L x p:=let ⟨dx,c,h1,h2⟩:=h;⟨dx,c,s _ _ h1 (by intro z;nofun),h2.sd s⟩
theorem mE.sd {H H':Hp} {L:List Line} {l:Addr} {ps:List Part} (h:mE a H L l ps) (s:Sd H H'):mE a H' L l ps:=let ⟨as,h1,h2⟩:=h;⟨as,s _ _ h1 (by intro z;nofun),Paired.mapP h2 fun _ _ z=>z.sd s⟩
theorem vN:aI ["swings","courses","swing"] ["swings","courses"] (defScope hUz):=by walk_at "s"
inductive dRz (a:Adr) (vs:List V) (H:Hp) (Q:VK) (_E:XK):Prop
 | mk (l ps d b L) (_:vs=[.ref l,.ref d]) (_:eU a H l ps) (_:ps.length≤8) (_:(∀p∈ps,vG p)) (_:CT a H L b d) (_:(∀p∈ps,∀x∈p.sum,∃y∈b,y.isAngle=true∧y.name=x.name)) (_:∀H' D,Same H H'→mE a H' L D ps→Q (.ref D) H'):dRz a vs H Q _E
theorem pGz (T:Txt K mg a):Ok P w K mg base 4 a.aHz ["swings","courses"] (dRz a):=by
 have iU := @mW P w K mg base a T;have G_Sway := @B1z P w K mg base a T;refine bD T.tGz vN ?b ?l ?h;walk_at "o"
 ·obtain⟨l,ps,d,b,L,rfl,_⟩:=h;rfl
 ·obtain⟨l,ps,d,b,L,rfl,⟨as,hl,hSs⟩,h8,hok,hC,hHas,k⟩:=h
  refine⟨_,(aE (aR (jVz (own:=[("swing",2)]) rfl vN.nd (eT (pv 0)) (kW (by rfl)) (fun _ _ _ _ _=>(cZ (i:=2) vN.nd rfl (Or.inl rfl))) (fun _ _ _ _ _=>sC) (fun _ _ _ _ _=>(pn T.B7z G_Sway (hr.mono (by decide)) (by rfl) T.g_Sway passN (aA (jL (K:=K) (pv 2) rfl) (aA (pc iU (hr.mono (by decide)) (by rfl) T.oX passN (aA (jL (K:=K) (pv 2) rfl) (aA (pv 1) aD))) aD))))))),?_⟩;have hlb:as.length=ps.length:=Paired.length hSs;obtain⟨rr,hLr⟩:=hC.pre;refine⟨_,rfl,⟨l,rfl,⟨_,SqL.of hl⟩,fun D hD=>?_⟩⟩;refine wD (K:=K) (l:=l) (xs:=as.map V.ref) (g:=gName 2) (tt:=tYes) (vs:=[2]) (σ := [some (.ref l),some (.ref d),none]) (fun i H'=>∃es:List Addr,H' D=some (.lst (es.map V.ref))∧Same H H'∧Paired (wV a H' L) es (ps.take i)) ⟨[],aC,aF hD,.nil⟩ (fun i H' _ ⟨_,_,s,_⟩=>SqL.of (s _ _ hl)) (fun H' ⟨es,h1,s,h2⟩=>?_) ?_
  ·rw [List.length_map,hlb,List.take_length] at h2
   exact k H' D s ⟨es,h1,h2⟩
  ·rintro i y H' hi ⟨es,hDe,s1,hes⟩
   obtain⟨x,hx,rfl⟩:=eI hi;obtain⟨p,hp,dx,lt,g1,g2⟩:=Paired.at_ hSs hx;have hm:=List.mem_of_getElem? hp;have hpo:=hok p hm;refine⟨rfl,?_⟩;simp only [tYes,if_true];refine⟨_,rfl,x,_,dx,_,_,rfl,s1 _ _ g1,T.nF,T.iX,lU _ _,_,rfl,x,_,dx,_,_,rfl,s1 _ _ g1,T.nF,T.kR,iZ _ _,_,rfl,lt,p.sum,d,b,L,rfl,g2.same s1,hpo.sum,hC.same s1,fun x hx=>let ⟨y,h1,_,h3⟩:=hHas p hm x hx;⟨y,h1,h3⟩,fun H2 c s2 hc=>?_⟩;refine fun y dy nx ndx hne=>⟨y,dy,_,_,rfl,aC,rfl,?_⟩;rw [kJ];have s3:Same H2 (mkH H2 y dy a.vE (aEz (.int p.number) (.ref c))):=dS nx ndx;have hDm:=s3 _ _ (s2 _ _ hDe);refine⟨_,hDm,?_,es++[y],?_,?_,?_⟩
   ·have:es.length=(ps.take i).length:=Paired.length hes
    rw [List.length_take] at this;rw [List.length_map,sizeLine_eq];omega
   ·rw [aC,List.map_append]
    rfl
   ·exact bZ ((s1.trans s2).trans s3) hD
   ·rw [bQ hp]
    have hTA:∀t,anglesAt L p.sum t=Ts.TA L p.sum t:=fun t=>f2z hC.sky.right.names (fun x hx=>let ⟨y,h1,h2,h3⟩:=hHas p hm x hx;⟨y,pUz hLr h1,h2,h3⟩) t;refine Paired.snoc' (Paired.mapP hes fun _ _ z=>z.si (fun b C dx fs hb=>Si.put hDm b C dx fs (s3 _ _ (s2 _ _ hb)))) ⟨dy,c,?_,?_⟩
    ·rw [aO (nBz (iH (fs:=aEz (.int p.number) (.ref c))) hDm (by intro z;cases z)),iH]
    ·rw [hTA,hTA]
     exact (hc.same s3).si (Si.put hDm)
inductive iT (a:Adr) (H:Hp) (L:List Line) (m:Addr) (z:Int×List Part×List Part):Prop
 | mk (dx lf ls) (_:H m=some (.ins a.eW dx (iC (.int z.1) (.ref lf) (.ref ls)))) (_:mE a H L lf z.2.1) (_:mE a H L ls z.2.2):iT a H L m z
inductive gF (a:Adr) (H:Hp) (L:List Line) (l:Addr) (zs:List (Int×List Part×List Part)):Prop
 | mk (as:List Addr) (_:H l=some (.lst (as.map V.ref))) (_:Paired (iT a H L) as zs):gF a H L l zs
theorem iT.sd {H H':Hp} {L:List Line} {m:Addr} {z:Int×List Part×List Part} (h:iT a H L m z) (s:Sd H H'):iT a H' L m z:=let ⟨dx,lf,ls,h1,h2,h3⟩:=h;⟨dx,lf,ls,s _ _ h1 (by intro z;nofun),h2.sd s,h3.sd s⟩
theorem gF.sd {H H':Hp} {L:List Line} {l:Addr} {zs:List (Int×List Part×List Part)} (h:gF a H L l zs) (s:Sd H H'):gF a H' L l zs:=let ⟨as,h1,h2⟩:=h;⟨as,s _ _ h1 (by intro z;nofun),Paired.mapP h2 fun _ _ z=>z.sd s⟩
theorem zH:aI ["line","courses"] ["line","courses"] (defScope rA):=by walk_at "s"
inductive oF (a:Adr) (vs:List V) (H:Hp) (Q:VK) (_E:XK):Prop
 | mk (x n p s q fs ss d b b' r L) (_:vs=[.ref x,.ref d]) (_:fS a H x (.wave n p s q fs ss)) (_:L=b'++Line.wave n p s q fs ss::r) (_:CT a H L b d) (_:(∀y∈b',y∈b)) (_:∀H' m,Same H H'→iT a H' L m (1,fs,ss)→Q (.ref m) H'):oF a vs H Q _E
theorem zN (T:Txt K mg a):Ok P w K mg base 5 a.jU ["line","courses"] (oF a):=by
 have iVz := @pGz P w K mg base a T;have kTz := @m6z P w K mg base a T;refine bD T.b0z zH ?b ?l ?h;walk_at "o"
 ·obtain⟨x,n,p,s,q,fs,ss,d,b,b',r,L,rfl,_⟩:=h;rfl
 ·obtain⟨x,n,p,s,q,fs,ss,d,b,b',r,L,rfl,⟨dx,nn,lt,lf,ls,h1,h2,h3,h4,h5⟩,hLb,hC,hbb,k⟩:=h
  refine⟨_,(aE (aR (pn T.nCz kTz (hr.mono (by decide)) (by rfl) T.sQz passN (aA aT (aA (pc iVz (hr.mono (by decide)) (by rfl) T.iLz passN (aA (aM (pv 0) rfl) (aA (pv 1) aD))) (aA (pc iVz (hr.mono (by decide)) (by rfl) T.iLz passN (aA (aM (pv 0) rfl) (aA (pv 1) aD))) aD)))))),?_⟩;have hok:dW (.wave n p s q fs ss):=hC.sky.ok _ (by rw [hLb];exact List.mem_append_right _ (List.mem_cons_self ..));cases hok with
  | wave hn hs ht hf hg lnf lns =>
  have hu:∀(z:Part),z∈fs++ss→∀x∈z.sum,∃y∈b,y.isAngle=true∧y.name=x.name:=fun z hz x hx=>by
   obtain⟨y,g1,g2,g3⟩:=hC.sky.used hLb (l := .wave n p s q fs ss) (x:=x) (List.mem_append_right _ (List.mem_flatMap.mpr ⟨z,hz,hx⟩));exact⟨y,hbb y g1,g2,g3⟩
  refine⟨_,rfl,x,_,dx,_,_,rfl,h1,T.aV,T.dR,eM _ _ _ _ _ _,_,rfl,lf,fs,d,b,L,rfl,h4,lnf,hf,hC,fun z hz=>hu z (List.mem_append_left _ hz),fun H1 D1 s1 hD1=>?_⟩;refine⟨_,rfl,x,_,dx,_,_,rfl,s1 _ _ h1,T.aV,T.fM,iB _ _ _ _ _ _,_,rfl,ls,ss,d,b,L,rfl,h5.same s1,lns,hg,hC.same s1,fun z hz=>hu z (List.mem_append_right _ hz),fun H2 D2 s2 hD2=>?_⟩;refine fun y dy nx ndx hne=>⟨y,dy,_,_,_,rfl,aC,rfl,?_⟩;rw [kJ];have s3:Same H2 (mkH H2 y dy a.eW (iC (.int 1) (.ref D1) (.ref D2))):=dS nx ndx;exact k _ y ((s1.trans s2).trans s3) ⟨dy,D1,D2,iH,hD1.sd (.of (s2.trans s3)),hD2.sd (.of s3)⟩
inductive kX (a:Adr) (H:Hp) (L:List Line) (x:Addr) (l:Line):Prop
 | mk (dx nn c lm) (_:H x=some (.ins a.nH dx (qF (.ref nn) (.ref c) (.ref lm)))) (_:H nn=some (.tup (bV l.name))) (_:crs a H L c l) (_:gF a H L lm (mems L l)):kX a H L x l
theorem kX.sd {H H':Hp} {L:List Line} {x:Addr} {l:Line} (h:kX a H L x l) (s:Sd H H'):kX a H' L x l:=let ⟨dx,nn,c,lm,h1,h2,h3,h4⟩:=h;⟨dx,nn,c,lm,s _ _ h1 (by intro z;nofun),s _ _ h2 (by intro z;nofun),cC.sd h3 s,h4.sd s⟩
def nonA (b:List Line):List Line:=b.filter fun (x:Line) => !x.isAngle
structure WT (a:Adr) (H:Hp) (L b:List Line) (d:Addr):Prop where
 sky:Sky L
 pre:∃r,L=b++r
 tab:∃kvs,H d=some (.dT kvs)∧HD (kX a H L) kvs (nonA b)
theorem WT.same {H H':Hp} {L b:List Line} {d:Addr} (C:WT a H L b d) (s:Same H H'):WT a H' L b d:=⟨C.sky,C.pre,let ⟨kvs,h1,h2⟩:=C.tab;⟨kvs,s _ _ h1,h2.map fun _ _ z=>z.sd (.of s)⟩⟩
theorem iFz {b r L:List Line} (h:(L.map Line.name).Nodup) (e:L=b++r):((nonA b).map Line.name).Nodup:=by
 rw [e,List.map_append] at h;exact (List.nodup_append.mp h).1.sublist ((List.filter_sublist).map _)
theorem WT.get {H:Hp} {L b:List Line} {d nn:Addr} {y:Line} {n:Bytes} (C:WT a H L b d) (hy:y∈b) (hw:y.isWave=true) (hyn:y.name=n) (hn:H nn=some (.tup (bV n))):∃c,DGet H d (.ref nn) (some (.ref c))∧kX a H L c y:=by
 obtain⟨kvs,h1,h2⟩:=C.tab;obtain⟨r,hr⟩:=C.pre;have hm:y∈nonA b:=List.mem_filter.mpr ⟨hy,by cases y <;> first | rfl | cases hw⟩;have hv:=h2.val (n:=y.name);rw [fSz (iFz C.sky.right.names hr) hm] at hv;obtain⟨c,e1,e2⟩:=hv;refine⟨c,?_,e2⟩;rw [← e1,hyn];exact DGet.t h1 (by rw [vF];exact hn)
theorem fJ:aI ["line","waves","members","term","wave"] ["line","waves"] (defScope qZ):=by walk_at "s"
inductive oE (a:Adr) (vs:List V) (H:Hp) (Q:VK) (_E:XK):Prop
 | mk (x n p s d b b' r L) (_:vs=[.ref x,.ref d]) (_:fS a H x (.sum n p s)) (_:L=b'++Line.sum n p s::r) (_:WT a H L b d) (_:(∀y∈b',y∈b)) (_:∀H' D,Same H H'→gF a H' L D (mems L (.sum n p s))→Q (.ref D) H'):oE a vs H Q _E
theorem zM (T:Txt K mg a):Ok P w K mg base 3 a.jT ["line","waves"] (oE a):=by
 have jB := @sE P w K mg base a T;have kTz := @m6z P w K mg base a T;refine bD T.bZz fJ ?b ?l ?h;walk_at "o"
 ·obtain⟨x,n,p,s,d,b,b',r,L,rfl,_⟩:=h;rfl
 ·obtain⟨x,n,p,s,d,b,b',r,L,rfl,⟨dx,nn,lt,h1,h2,⟨as,hl,hTs⟩⟩,hLb,hC,hbb,k⟩:=h
  refine⟨_,(aB (aP (i:=2) fJ.nd rfl (Or.inl rfl) (dM aD))
   (aB (lN PassesOwn.leaving rfl (eT (aM (pv 0) rfl)) (cZ (i:=3) fJ.nd rfl (Or.inl rfl))
    (aB (aP (i:=4) fJ.nd rfl (Or.inl rfl) (pN fC (aM (jXz (fFz hr) (pv 1) (aM (pv 3) rfl) (fun _ _=>rfl)) rfl) aT (fun _ _=>rfl)))
   (aE (aU (kP PySem.F.plainAttrs_list PySem.F.slot_list_append PySem.F.type_list_append hJ (pv 2) (aA (pn T.nCz kTz (hr.mono (by decide)) (by rfl) T.sQz passN (aA (pc jB (hr.mono (by decide)) (by rfl) T.nR passN (aA (pv 3) aD)) (aA (aM (pv 4) rfl) (aA (aM (pv 4) rfl) aD)))) aD))))))
   (aE (aR (pv 2))))),?_⟩
  have hok:dW (.sum n p s):=hC.sky.ok _ (by rw [hLb];exact List.mem_append_right _ (List.mem_cons_self ..));cases hok with
  | sum hn hs =>
  have hlb:as.length=s.length:=Paired.length hTs;refine⟨Nat.zero_le _,fun D hD=>?_⟩;dsimp only [gName];have s0:Same H (upd H D (.lst [])):=aF hD;refine⟨_,rfl,x,_,dx,_,_,rfl,s0 _ _ h1,T.bO,T.dY,eQ _ _ _,lt,rfl,⟨_,SqL.of (s0 _ _ hl)⟩,iA (K:=K) (a:=lt) (xs:=as.map V.ref) (fun i σ H'=>∃(v3 v4:Option V) (es:List Addr),σ = [some (.ref x),some (.ref d),some (.ref D),v3,v4]∧Same H H'∧H' D=some (.lst (es.map V.ref))∧Paired (fun m z=>∃dx lf ls,H' m=some (.ins a.eW dx (iC (.int z.1) (.ref lf) (.ref ls)))∧mE a H L lf z.2.1∧mE a H L ls z.2.2) es ((s.take i).map (memOf L))) ⟨none,none,[],rfl,s0,aC,.nil⟩ (fun i σ H' _ ⟨_,_,_,_,s,_⟩=>SqL.of (s _ _ hl)) ?_ ?_⟩
  ·rintro i y σ H1 hi ⟨v3,v4,es,rfl,s1,hD1,hes⟩
   obtain⟨y,hy,rfl⟩:=eI hi;obtain⟨t,ht,dy,ny,g1,g2⟩:=Paired.at_ hTs hy;have hm:=List.mem_of_getElem? ht;obtain⟨wl,w1,w2,w3⟩:=hC.sky.used hLb (l := .sum n p s) (x:=t) hm;have w2':wl.isWave=true:=w2;obtain⟨c,hdg,dc,nc,cc,lm,c1,c2,c3,⟨ms,c4,c5⟩⟩:=hC.get (hbb _ w1) w2' w3 g2;have hwo:waveOf L t.name=some wl:=by rw [← w3];exact wY hC.sky.right.names (by rw [hLb];exact List.mem_append_left _ w1) w2'
   cases wl with
   | angle=>cases w2'
   | sum=>cases w2'
   | wave wn wp ws wq wfs wss =>
   cases c5 with
   | cons hM c6 =>
   cases c6;rename_i m;obtain⟨dm,lf,ls,m1,m2,m3⟩:=hM;have hdg1:DGet H1 d (.ref ny) (some (.ref c)):=by
    obtain⟨kvs,k1,k2⟩:=hC.tab;rcases hdg with ⟨kvs',kk,_,z,_⟩ | ⟨kvs',kk,bb,z1,z2,z3,z4⟩
    ·exact absurd z (by cases kk <;> nofun)
    ·cases z2
     refine .inr ⟨kvs',kk,ny,?_,rfl,s1 _ _ z3,z4⟩;rcases z1 with z1 | ⟨o,z1⟩
     ·exact .inl (s1 _ _ z1)
     ·exact .inr ⟨o,s1 _ _ z1⟩
   refine⟨_,rfl,_,rfl,y,_,dy,_,_,rfl,s1 _ _ g1,T.fQ,T.iN,jG _ _ _ _,d,_,rfl,hdg1,c,_,dc,_,_,rfl,s1 _ _ c1,T.jZ,T.iW,lT _ _ _,?_⟩;refine⟨lm,_,0,.ref m,rfl,rfl,SqL.of (s1 _ _ c4),fF (j:=0) rfl,?_⟩;dsimp only [gName];have hcn:=hs.cnts t hm;refine⟨_,rfl,.inl ⟨rfl,_,SqL.of hD1⟩,_,rfl,y,t,rfl,⟨dy,ny,s1 _ _ g1,s1 _ _ g2⟩,hcn.2,_,rfl,m,_,dm,_,_,rfl,s1 _ _ m1,T.iF,T.jM,oZ _ _ _,_,rfl,m,_,dm,_,_,rfl,s1 _ _ m1,T.iF,T.lR,rL _ _ _,fun x' dx' nx ndx hne=>⟨x',dx',_,_,_,rfl,aC,rfl,?_⟩⟩;rw [kJ];have s3:Same H1 (mkH H1 x' dx' a.eW (iC (.int t.times) (.ref lf) (.ref ls))):=dS nx ndx;have hDm:=s3 _ _ hD1;refine⟨D,_,_,rfl,rfl,hDm,?_,_,_,es++[x'],rfl,bZ (s1.trans s3) hD,?_,?_⟩
   ·have:es.length=((s.take i).map (memOf L)).length:=Paired.length hes
    rw [List.length_map,List.length_take] at this;rw [List.length_map,sizeLine_eq]
    have:=hs.len.2
    omega
   ·rw [aC,List.map_append]
    rfl
   ·rw [bQ ht,List.map_append]
    have si:Si H1 (upd (mkH H1 x' dx' a.eW (iC (.int t.times) (.ref lf) (.ref ls))) D (.lst (es.map V.ref++[V.ref x']))):=fun b C dx fs hb=>Si.put hDm b C dx fs (s3 _ _ hb);refine Paired.snoc' (Paired.mapP hes fun _ _ z=>let ⟨dx,lf,ls,z1,z2⟩:=z;⟨dx,lf,ls,si _ _ _ _ z1,z2⟩) ?_;unfold memOf;rw [hwo];refine⟨dx',lf,ls,?_,m2,m3⟩;exact Si.put hDm _ _ _ _ iH
  ·rintro σ H' ⟨v3,v4,es,rfl,s1,hD1,hes⟩
   rw [List.length_map,hlb,List.take_length] at hes;exact⟨_,rfl,k H' D s1 ⟨es,hD1,Paired.mapP hes fun _ _ z=>let ⟨dx,lf,ls,z1,z2,z3⟩:=z;⟨dx,lf,ls,z1,z2.sd (.of s1),z3.sd (.of s1)⟩⟩⟩
inductive yT (a:Adr) (H:Hp) (L:List Line) (l:Addr) (ws:List Line):Prop
 | mk (as:List Addr) (_:H l=some (.lst (as.map V.ref))) (_:Paired (kX a H L) as ws):yT a H L l ws
theorem HD.snoc {F:Addr→Line→Prop} {kvs:List (List Key×V)} {b:List Line} {l:Line} {c:Addr} (h:HD F kvs b) (hn:∀y∈b,y.name≠l.name) (hc:F c l):HD F (putK kvs (kOf l.name) (.ref c)) (b++[l]):=by
 have hv:=h.val (n:=l.name);rw [List.find?_eq_none.mpr fun y hy z=>hn y hy (eq_of_beq z)] at hv;rw [jQz _ hv];exact Paired.snoc' h ⟨rfl,c,rfl,hc⟩
theorem kZz {F:Addr→Line→Prop}:∀{kvs:List (List Key×V)} {b:List Line},HD F kvs b→∃as:List Addr,kvs.map (·.2)=as.map V.ref∧Paired F as b
 | _,_,.nil=>⟨[],rfl,.nil⟩
 | _,_,.cons ⟨_,c,e,q⟩ t=>by
  obtain⟨as,h1,h2⟩:=kZz t;exact⟨c::as,by rw [List.map_cons,List.map_cons,h1,e],.cons q h2⟩
theorem HD.len {F:Addr→Line→Prop} {kvs:List (List Key×V)} {b:List Line} (h:HD F kvs b):kvs.length=b.length:=Paired.length h
theorem nAz (b:List Line) (l:Line):nonA (b++[l])=nonA b++(if l.isAngle=true then [] else [l]):=by
 unfold nonA;rw [List.filter_append];refine congrArg _ ?_;cases l <;> rfl
theorem zQz (l:Line):decide (V.str (wordOf l)=V.str (Str.ofString "wave"))=l.isWave:=by
 cases l
 ·exact w_aw
 ·exact DIz
 ·exact DJz
theorem zRz (l:Line):decide (V.str (wordOf l)=V.str (Str.ofString "sum"))=(!l.isAngle && !l.isWave):=by
 cases l
 ·exact w_as
 ·exact w_ws
 ·exact w_ss
theorem lF:aI ["lines","courses","waves","line","course"] ["lines"] (defScope hSz):=by walk_at "s"
inductive dOz (a:Adr) (vs:List V) (H:Hp) (Q:VK) (_E:XK):Prop
 | mk (l L) (_:vs=[.ref l]) (_:pE a H l L) (_:Sky L) (_:L.length≤16000) (_:∀H' D,Same H H'→yT a H' L D (waves L)→Q (.ref D) H'):dOz a vs H Q _E
theorem pDz (T:Txt K mg a):Ok P w K mg base 6 a.aFz ["lines"] (dOz a):=by
 have cNz := @zO P w K mg base a T;have cMz := @zN P w K mg base a T;have cLz := @zM P w K mg base a T;have A5z := @BZz P w K mg base a T;refine bD T.tEz lF ?b ?l ?h;walk_at "o"
 ·obtain⟨l,L,rfl,_⟩:=h;rfl
 ·obtain⟨l,L,rfl,⟨as,hl,hLs⟩,hS,hlen,k⟩:=h
  refine⟨_,(aB (aP (i:=1) lF.nd rfl (Or.inl rfl) jWz)
   (aB (aP (i:=2) lF.nd rfl (Or.inl rfl) jWz)
   (aB (lN PassesOwn.leaving rfl (eT (pv 0)) (cZ (i:=3) lF.nd rfl (Or.inl rfl))
    (aB (aP (i:=4) lF.nd rfl (Or.inl rfl) (pc cNz (hr.mono (by decide)) (by rfl) T.cEz passN (aA (pv 3) (aA (pv 1) aD))))
   (aB (jRz (fFz hr) (pv 1) (aM (pv 3) rfl) (pv 4) rfl)
   (aB (dE (aY gW (aM (pv 3) rfl) (gS T.bPz) (nomark _)) (aE (jRz (fFz hr) (pv 2) (aM (pv 3) rfl) (pn T.wQz A5z (hr.mono (by decide)) (by rfl) T.AWz passN (aA (aM (pv 3) rfl) (aA (pv 4) (aA (dM (aA (pc cMz (hr.mono (by decide)) (by rfl) T.cDz passN (aA (pv 3) (aA (pv 1) aD))) aD)) aD)))) rfl)) bA)
   (aE (dE (aY gW (aM (pv 3) rfl) (gS T.xFz) (nomark _)) (aE (jRz (fFz hr) (pv 2) (aM (pv 3) rfl) (pn T.wQz A5z (hr.mono (by decide)) (by rfl) T.AWz passN (aA (aM (pv 3) rfl) (aA (pv 4) (aA (pc cLz (hr.mono (by decide)) (by rfl) T.cCz passN (aA (pv 3) (aA (pv 2) aD))) aD)))) rfl)) bA))))))
   (aE (aR (pAz rfl (by rfl) T.pLz (pv 2))))))),?_⟩
  have hlb:as.length=L.length:=Paired.length hLs;refine fun cd hcd=>?_;dsimp only [gName];refine fun wd hwd=>?_;dsimp only [gName];have hwd0:H wd=none:=(aF hcd).free hwd;have hne:cd≠wd:=fun z=>by rw [← z,aC] at hwd;cases hwd
  have s0:Same H (upd (upd H cd (.dT [])) wd (.dT [])):=(aF hcd).trans (aF hwd);refine⟨_,rfl,l,rfl,⟨_,SqL.of (s0 _ _ hl)⟩,iA (K:=K) (a:=l) (xs:=as.map V.ref) (fun i σ H'=>∃(v3 v4:Option V),σ = [some (.ref l),some (.ref cd),some (.ref wd),v3,v4]∧Same H H'∧CT a H' L (L.take i) cd∧WT a H' L (L.take i) wd) ⟨none,none,rfl,s0,⟨hS,⟨L,rfl⟩,[],by rw [aO hne,aC],.nil⟩,⟨hS,⟨L,rfl⟩,[],aC,.nil⟩⟩ (fun i σ H' _ ⟨_,_,_,s,_⟩=>SqL.of (s _ _ hl)) ?_ ?_⟩
  ·rintro i y σ H1 hi ⟨v3,v4,rfl,s1,hC,hW⟩
   obtain⟨x,hx,rfl⟩:=eI hi;obtain⟨ln,hln,hL⟩:=Paired.at_ hLs hx;obtain⟨hilt,hie⟩:=List.getElem?_eq_some_iff.mp hln;have hLb:L=L.take i++ln::L.drop (i+1):=by
    rw [← hie,← List.drop_eq_getElem_cons hilt,List.take_append_drop]
   have hbl:(L.take i).length≤16000:=by rw [List.length_take];omega
   have hpre:∃r,L=L.take (i+1)++r:=⟨L.drop (i+1),(List.take_append_drop _ _).symm⟩;have htk:=bQ hln;rw [htk] at hpre;have hnames:∀y∈L.take i,y.name≠ln.name:=fun y hy z=>by
    have hnd:=hS.right.names;rw [hLb,List.map_append,List.map_cons] at hnd
    have:=(List.nodup_append.mp hnd).2.2 y.name (List.mem_map_of_mem hy) ln.name (List.mem_cons_self ..)
    exact this z
   rw [htk];generalize L.take i=b at *;obtain⟨C,dx,fs,nn,g1,gC,gw,gn,gp,fw,fn,fp,hnn⟩:=fS.acc T hL;refine⟨_,rfl,_,rfl,x,ln,cd,b,_,L,rfl,hL.same s1,hLb,hC,fun H2 c s2 hc=>?_⟩;dsimp only [gName];have s12:=s1.trans s2;obtain⟨kvs,k1,k2⟩:=(hC.same s2).tab;have hkl:=k2.len;refine⟨_,rfl,_,rfl,_,rfl,x,C,dx,fs,_,rfl,s12 _ _ g1,gC,gn,fn,cd,_,rfl,DPut.t (k:=kOf ln.name) k1 (by rw [vF];exact s12 _ _ hnn) (by rw [sizeLine_eq];omega),?_⟩;have sd3:Sd H2 (upd H2 cd (.dT (putK kvs (kOf ln.name) (.ref c)))):=Sd.put k1;have s3:Same H (upd H2 cd (.dT (putK kvs (kOf ln.name) (.ref c)))):=bZ s12 hcd;have hC3:CT a (upd H2 cd (.dT (putK kvs (kOf ln.name) (.ref c)))) L (b++[ln]) cd:=⟨hS,hpre,_,aC,(k2.map fun _ _ z=>cC.sd z sd3).snoc hnames (cC.sd hc sd3)⟩;have hW3:WT a (upd H2 cd (.dT (putK kvs (kOf ln.name) (.ref c)))) L b wd:=by
    obtain⟨kvs',q1,q2⟩:=(hW.same s2).tab;exact⟨hS,hW.pre,kvs',by rw [aO (Ne.symm hne)];exact q1,q2.map fun _ _ z=>z.sd sd3⟩
   have hc3:crs a (upd H2 cd (.dT (putK kvs (kOf ln.name) (.ref c)))) L c ln:=cC.sd hc sd3;generalize upd H2 cd (.dT (putK kvs (kOf ln.name) (.ref c)))=H3 at *;have put:∀(H5:Hp) (wv:Addr),Same H3 H5→kX a H5 L wv ln→ln.isAngle=false→∃H6,DPut H5 wd (.ref nn) (.ref wv) H6∧Same H H6∧CT a H6 L (b++[ln]) cd∧WT a H6 L (b++[ln]) wd∧H6 x=some (.ins C dx fs):=by
    intro H5 wv s5 hwv hA;obtain⟨kvs',q1,q2⟩:=(hW3.same s5).tab;have hq2:=q2.len;have hnb:(nonA b).length≤b.length:=List.length_filter_le _ _;have sd6:Sd H5 (upd H5 wd (.dT (putK kvs' (kOf ln.name) (.ref wv)))):=Sd.put q1;refine⟨_,DPut.t (k:=kOf ln.name) q1 (by rw [vF];exact s5 _ _ (s3 _ _ hnn)) (by rw [sizeLine_eq];omega),bZ (s3.trans s5) hwd0,?_,?_,?_⟩
    ·obtain⟨kvs2,z1,z2⟩:=(hC3.same s5).tab
     exact⟨hS,hpre,kvs2,by rw [aO hne];exact z1,z2.map fun _ _ z=>cC.sd z sd6⟩
    ·refine⟨hS,hpre,_,aC,?_⟩
     rw [nAz,hA,if_neg Bool.false_ne_true];exact (q2.map fun _ _ z=>z.sd sd6).snoc (fun y hy=>hnames y (List.mem_filter.mp hy).1) (hwv.sd sd6)
    ·exact sd6 _ _ (s5 _ _ (s3 _ _ g1)) (by intro z;nofun)
   dsimp only;refine lE (fun σ' H4 => σ'=[some (.ref l),some (.ref cd),some (.ref wd),some (.ref x),some (.ref c)]∧Same H H4∧CT a H4 L (b++[ln]) cd∧((ln.isWave=true∧WT a H4 L (b++[ln]) wd)∨(ln.isWave=false∧WT a H4 L b wd∧crs a H4 L c ln∧H4=H3))) (fun N hN=>?_) ?_
   ·refine⟨_,rfl,x,C,dx,fs,_,rfl,s3 _ _ g1,gC,gw,fw,rfl,_,rfl,?_⟩
    rw [zQz];cases hwv:ln.isWave with
    | false=>exact iteF (hN _ _ ⟨rfl,s3,hC3,.inr ⟨hwv,hW3,hc3,rfl⟩⟩)
    | true =>
     cases ln with
     | angle=>cases hwv
     | sum=>cases hwv
     | wave n p s q wfs wss =>
     refine iteT ⟨_,rfl,x,C,dx,fs,_,rfl,s3 _ _ g1,gC,gn,fn,_,rfl,_,rfl,_,rfl,x,n,p,s,q,wfs,wss,cd,b++[.wave n p s q wfs wss],b,_,L,rfl,hL.same s3,hLb,hC3,fun y hy=>List.mem_append_left _ hy,fun H4 m s4 hm=>?_⟩;refine⟨(show 1≤sizeLine by decide),fun D hD=>?_⟩;refine fun wv dv nx ndx hne2=>⟨wv,dv,_,_,_,rfl,aC,rfl,?_⟩;rw [kJ];have s5:Same H4 (upd H4 D (.lst [.ref m])):=aF hD;have s6:Same (upd H4 D (.lst [.ref m])) (mkH (upd H4 D (.lst [.ref m])) wv dv a.nH (qF (.ref nn) (.ref c) (.ref D))):=dS nx ndx;have s36:=s4.trans (s5.trans s6);have hwave:kX a (mkH (upd H4 D (.lst [.ref m])) wv dv a.nH (qF (.ref nn) (.ref c) (.ref D))) L wv (.wave n p s q wfs wss):=⟨dv,nn,c,D,iH,s36 _ _ (s3 _ _ hnn),cC.same hc3 s36,[m],s6 _ _ aC,.cons (hm.sd (.of (s5.trans s6))) .nil⟩;obtain⟨H6,p1,p2,p3,p4,p5⟩:=put _ wv s36 hwave rfl;exact⟨_,rfl,_,rfl,x,C,dx,fs,_,rfl,s36 _ _ (s3 _ _ g1),gC,gn,fn,wd,H6,rfl,p1,hN _ _ ⟨rfl,p2,p3,.inl ⟨rfl,p4⟩⟩⟩
   ·rintro σ' H4 ⟨rfl,s4,hC4,hW4⟩
    refine⟨_,rfl,x,C,dx,fs,_,rfl,s4 _ _ g1,gC,gw,fw,rfl,_,rfl,?_⟩;rw [zRz];rcases hW4 with ⟨hwv,hW4⟩ | ⟨hwv,hW4,hc4,rfl⟩
    ·rw [hwv,Bool.not_true,Bool.and_false]
     exact iteF ⟨_,_,rfl,s4,hC4,hW4⟩
    ·cases ln with
     | wave=>cases hwv
     | angle n p ph rt =>
      refine iteF ⟨_,_,rfl,s4,hC4,⟨hS,hpre,?_⟩⟩;rw [nAz,show (Line.angle n p ph rt).isAngle=true from rfl,if_pos rfl,List.append_nil];exact hW4.tab
     | sum n p s =>
      refine iteT ⟨_,rfl,x,C,dx,fs,_,rfl,s4 _ _ g1,gC,gn,fn,_,rfl,_,rfl,_,rfl,x,n,p,s,wd,b,b,_,L,rfl,hL.same s4,hLb,hW4,fun y hy=>hy,fun H5 D s5 hM=>?_⟩;refine fun wv dv nx ndx hne2=>⟨wv,dv,_,_,_,rfl,aC,rfl,?_⟩;rw [kJ];have s6:Same H5 (mkH H5 wv dv a.nH (qF (.ref nn) (.ref c) (.ref D))):=dS nx ndx;have s36:=s5.trans s6;have hwave:kX a (mkH H5 wv dv a.nH (qF (.ref nn) (.ref c) (.ref D))) L wv (.sum n p s):=⟨dv,nn,c,D,iH,s36 _ _ (s4 _ _ hnn),cC.same hc4 s36,hM.sd (.of s6)⟩;obtain⟨H6,p1,p2,p3,p4,p5⟩:=put _ wv s36 hwave rfl;exact⟨_,rfl,_,rfl,x,C,dx,fs,_,rfl,s36 _ _ (s4 _ _ g1),gC,gn,fn,wd,H6,rfl,p1,_,_,rfl,p2,p3,p4⟩
  ·rintro σ H' ⟨v3,v4,rfl,s1,hC,hW⟩
   rw [List.length_map,hlb,List.take_length] at hW;obtain⟨kvs,q1,q2⟩:=hW.tab;refine⟨_,rfl,wd,kvs,rfl,q1,fun D hD=>k _ D (s1.trans (aF hD)) ?_⟩;obtain⟨as',e1,e2⟩:=kZz q2;exact⟨as',by rw [aC,e1],Paired.mapP e2 fun _ _ z=>z.sd (.of (aF hD))⟩
theorem lt1000 {n m k:Nat} (h:n≤2 ^ m) (hm:m<k:=by decide):n<2 ^ k:=Nat.lt_of_le_of_lt h (Nat.pow_lt_pow_right (by decide) hm)
theorem vMz {x:Nat} (hx:x≤2 ^ 192):∀k,tm x k≤2 ^ 192
 | 0=>Nat.le_refl _
 | k+1=>by
  have ih:=vMz hx k;show tm x k*x/2 ^ 192/(k+1)≤_;refine Nat.le_trans (Nat.div_le_self _ _) ?_;refine Nat.div_le_of_le_mul ?_;exact Nat.mul_le_mul ih hx
theorem a5z {x f:Nat} (hx:x≤2 ^ 192) (hf:f≤1):(Tide.series f x).natAbs≤2 ^ 197:=by
 rw [lVz f x hf];have h:=oA (f:=fun k:Nat=>(tm x (f+4*k):Int)-(tm x (f+4*k+2):Int)) (M:=2 ^ 193) (s:=List.range 16) fun k _=>by
  have h1:=vMz hx (f+4*k);have h2:=vMz hx (f+4*k+2);omega
 rw [List.length_range] at h;exact Nat.le_trans h (by decide)
theorem kO {r:Nat} (h:r≤2 ^ 32):(quarterCos r (2 ^ 32)).natAbs≤2 ^ 197:=by
 have key:∀n,2*n≤2 ^ 32→Tide.QUARTER*n/2 ^ 32≤2 ^ 192:=fun n hn=>by
  refine Nat.div_le_of_le_mul ?_;refine Nat.le_trans (Nat.mul_le_mul_left _ (show n≤2 ^ 31 by omega)) (by decide)
 unfold quarterCos;split
 ·exact a5z (key r (by assumption)) (by decide)
 ·exact a5z (key (2 ^ 32-r) (by omega)) (by decide)
theorem qFz (n:Nat):(cosAt n (2 ^ 32)).natAbs≤2 ^ 197:=by
 unfold cosAt;dsimp only;have hm:=Nat.mod_lt n (show 0<2 ^ 32 by decide);generalize n%2 ^ 32=m at *;have hr:4*m-4*m/2 ^ 32*2 ^ 32≤2 ^ 32:=by omega
 generalize 4*m-4*m/2 ^ 32*2 ^ 32=r at *;split
 ·exact kO hr
 split
 ·rw [Int.natAbs_neg];exact kO (Nat.sub_le _ _)
 split
 ·rw [Int.natAbs_neg];exact kO hr
 ·exact kO (Nat.sub_le _ _)
theorem qVz (n:Nat):(C n).natAbs≤2 ^ 36:=by
 unfold C rounded;rw [show (Tide.TURN:Nat)=2 ^ 32 from rfl];have h:=qFz n;generalize cosAt n (2 ^ 32)=c at *;have key:(c.natAbs+2 ^ (BITS-31))/2 ^ (BITS-30)≤2 ^ 36:=by
  refine Nat.div_le_of_le_mul (Nat.le_trans (Nat.add_le_add_right h _) (by decide))
 split
 ·rw [Int.natAbs_neg,Int.natAbs_natCast];exact key
 ·rw [Int.natAbs_natCast];exact key
theorem yTz (n:Nat):(S n).natAbs≤2 ^ 36:=qVz _
theorem sc_cut:aI ["parts","turn"] ["parts","turn"] (defScope s_cut):=by walk_at "s"
inductive AFz (vs:List V) (H:Hp) (Q:VK) (_E:XK):Prop
 | mk (p:Int) (d:Nat) (_:vs=[.int p,.int (d:Int)]) (_:p.natAbs≤2 ^ 900) (_:(0<d∧d≤2 ^ 900)) (_:Q (.int (Tide.cut p d:Nat)) H):AFz vs H Q _E
theorem wMz (T:Txt K mg a):Ok P w K mg base 1 a.CRz ["parts","turn"] AFz:=by
 refine bD T.u_cut sc_cut ?b ?l ?h;walk_at "o"
 ·obtain⟨p,d,rfl,_⟩:=h;rfl
 ·obtain⟨p,d,rfl,hp,hd,k⟩:=h
  refine⟨_,(aE (aR (aZ mRz (aZ kQ (aZ dC (pv 0) (gI T.hX)) (pv 1)) (gI T.hX)))),?_⟩;have e:p*4294967296/(d:Int)%4294967296=((Tide.cut p d:Nat):Int):=by
   unfold Tide.cut;rw [Int.toNat_of_nonneg (Int.emod_nonneg _ (by decide))];rfl
  refine⟨_,rfl,_,_,rfl,rfl,⟨lt1000 hp,by decide⟩,_,rfl,_,_,rfl,rfl,⟨by omega,?_⟩,_,_,rfl,rfl,(by show (0:Int)<4294967296;decide),?_⟩
  ·have h1:d<2 ^ 1000:=lt1000 hd.2
   have h2:(d:Int)<((2 ^ 1000:Nat):Int):=Int.ofNat_lt.mpr h1;refine Int.lt_of_lt_of_le h2 (Int.le_of_eq ?_);rw [Int.natCast_pow];rfl
  ·show Q (V.int (p*4294967296/(d:Int)%4294967296)) H
   rw [e];exact k
theorem tSz:aI ["total","divisor"] ["total","divisor"] (defScope mIz):=by walk_at "s"
inductive hOz (vs:List V) (H:Hp) (Q:VK) (_E:XK):Prop
 | mk (t:Int) (d:Nat) (_:vs=[.int t,.int (d:Int)]) (_:t.natAbs≤2 ^ 900) (_:(0<d∧d≤2 ^ 900)) (_:Q (.int (Tide.nearest t d)) H):hOz vs H Q _E
theorem iBz (T:Txt K mg a):Ok P w K mg base 1 a.fTz ["total","divisor"] hOz:=by
 refine bD T.vFz tSz ?b ?l ?h;walk_at "o"
 ·obtain⟨t,d,rfl,_⟩:=h;rfl
 ·obtain⟨t,d,rfl,ht,hd,k⟩:=h
  refine⟨_,(aE (aR (aZ kQ (aZ gN (aZ dC aT (pv 0)) (pv 1)) (aZ dC aT (pv 1))))),?_⟩;refine⟨_,rfl,_,_,rfl,rfl,⟨by decide,lt1000 ht⟩,_,rfl,_,_,rfl,rfl,_,rfl,_,_,rfl,rfl,⟨by decide,by rw [Int.natAbs_natCast];exact lt1000 hd.2⟩,_,_,rfl,rfl,⟨by omega,?_⟩,k⟩
  have h1:2*d<2 ^ 1000:=Nat.lt_of_le_of_lt (Nat.mul_le_mul_left 2 hd.2) (by
   rw [← Nat.pow_succ'];exact Nat.pow_lt_pow_right (by decide) (by decide))
  have h2:((2*d:Nat):Int)<((2 ^ 1000:Nat):Int):=Int.ofNat_lt.mpr h1;refine Int.lt_of_lt_of_le (Int.lt_of_le_of_lt (Int.le_of_eq ?_) h2) (Int.le_of_eq ?_)
  ·show 2*(d:Int)=_
   omega
  ·rw [Int.natCast_pow]
   rfl
theorem fK:aI ["one","other","rest"] ["one","other"] (defScope rD):=by walk_at "s"
inductive oJ (vs:List V) (H:Hp) (Q:VK) (_E:XK):Prop
 | mk (m n:Nat) (_:vs=[.int (m:Int),.int (n:Int)]) (_:Q (.int (Nat.gcd m n:Nat)) H):oJ vs H Q _E
theorem zQ (T:Txt K mg a):Ok P w K mg base 1 a.jX ["one","other"] oJ:=by
 refine bD T.b3z fK ?b ?l ?h;walk_at "o"
 ·obtain⟨m,n,rfl,_⟩:=h;rfl
 ·obtain⟨m,n,rfl,k⟩:=h
  refine⟨_,(aB (mU PassesOwn.leaving (aY gQz (pv 0) aT (nomark _))
    (aB (aP (i:=2) fK.nd rfl (Or.inl rfl) (aZ mRz (pv 1) (pv 0)))
   (aB (aP (i:=1) fK.nd rfl (Or.inl rfl) (pv 0))
   (aE (aP (i:=0) fK.nd rfl (Or.inl rfl) (pv 2))))))
   (aE (aR (pv 1)))),?_⟩
  refine⟨fun i σ H'=>∃(x y:Nat) (v:Option V),σ = [some (.int (x:Int)),some (.int (y:Int)),v]∧H'=H∧i=x∧Nat.gcd x y=Nat.gcd m n,⟨m,m,n,none,rfl,rfl,rfl,rfl⟩,?_⟩;rintro i σ H' ⟨x,y,v,rfl,rfl,rfl,hg⟩;refine⟨_,rfl,_,_,rfl,rfl,_,rfl,?_⟩
  by_cases h0:i=0
  ·rw [decide_eq_false (by omega)]
   refine iteF ⟨_,rfl,?_⟩;subst h0;rw [Nat.gcd_zero_left] at hg;rw [hg];exact k
  ·rw [decide_eq_true (by omega)]
   refine iteT ⟨fun σ' H'=>∃m',m'<i∧∃(x y:Nat) (v:Option V),σ'=[some (.int (x:Int)),some (.int (y:Int)),v]∧H'=_∧m'=x∧Nat.gcd x y=Nat.gcd m n,fun _ _ z=>z,?_⟩;refine⟨_,rfl,_,rfl,_,_,rfl,rfl,(by show (0:Int)<(i:Int);omega),_,rfl,_,rfl,y%i,Nat.mod_lt _ (by omega),y%i,i,some (V.int ((y:Int)%(i:Int))),?_,rfl,rfl,?_⟩
   ·show [some (V.int ((y:Int)%(i:Int))),some (V.int (i:Int)),some (V.int ((y:Int)%(i:Int)))]=_
    rw [Int.natCast_emod]
   ·rw [← Nat.gcd_rec]
    exact hg
theorem vO:aI ["wave","growth","divisor"] ["wave"] (defScope hVz):=by walk_at "s"
inductive dSz (a:Adr) (vs:List V) (H:Hp) (Q:VK) (_E:XK):Prop
 | mk (x L l) (_:vs=[.ref x]) (_:kX a H L x l) (_:(gro L l).natAbs≤2 ^ 72) (_:∀D,H D=none→Q (.ref D) (upd H D (.lst [.int (gro L l/(Nat.gcd (gro L l).natAbs UNIT:Nat)),.int ((UNIT/Nat.gcd (gro L l).natAbs UNIT:Nat):Int)]))):dSz a vs H Q _E
theorem pHz (T:Txt K mg a):Ok P w K mg base 2 a.aIz ["wave"] (dSz a):=by
 have cPz := @zQ P w K mg base a T;refine bD T.tHz vO ?b ?l ?h;walk_at "o"
 ·obtain⟨x,L,l,rfl,_⟩:=h;rfl
 ·obtain⟨x,L,l,rfl,⟨dx,nn,c,lm,h1,h2,⟨dc,h3⟩,h4⟩,hb,k⟩:=h
  refine⟨_,(aB (aP (i:=1) vO.nd rfl (Or.inl rfl) (aM (aM (pv 0) rfl) rfl))
   (aB (aP (i:=2) vO.nd rfl (Or.inl rfl) (pc cPz (hr.mono (by decide)) (by rfl) T.cGz passN (aA (bH qQ (by rfl) T.eXz f0z (aA (pv 1) aD)) (aA (gI T.iJz) aD))))
   (aE (aR (dM (aA (aZ kQ (pv 1) (pv 2)) (aA (aZ kQ (gI T.iJz) (pv 2)) aD))))))),?_⟩
  refine⟨_,rfl,x,_,dx,_,_,rfl,h1,T.jZ,T.fA,gE _ _ _,c,_,dc,_,_,rfl,h3,T.dU,T.dH,dO _ _,?_⟩;dsimp only [gName];have hg:0<Nat.gcd (gro L l).natAbs UNIT:=Nat.gcd_pos_of_pos_right _ (by decide);have hg2:Nat.gcd (gro L l).natAbs UNIT≤UNIT:=Nat.le_of_dvd (by decide) (Nat.gcd_dvd_right _ _);refine⟨_,rfl,_,rfl,(gro L l).natAbs,UNIT,?_,?_⟩
  ·rw [qR];rfl
  generalize hgg:Nat.gcd (gro L l).natAbs UNIT=g at *;have hcd:DGz 0 (g:Int):=⟨by omega,Int.lt_of_le_of_lt (Int.ofNat_le.mpr hg2) (by decide)⟩;refine⟨_,rfl,_,rfl,_,_,rfl,rfl,hcd,_,rfl,_,_,rfl,rfl,hcd,(show 2≤sizeLine by decide),fun D hD=>?_⟩
  have:=k D hD
  rw [Int.natCast_ediv] at this;exact this
theorem mCz:aI ["wave","other","minutes"] ["wave","other","minutes"] (defScope eEz):=by walk_at "s"
inductive a1z (a:Adr) (vs:List V) (H:Hp) (Q:VK) (_E:XK):Prop
 | mk (x y L l m n) (_:vs=[.ref x,.ref y,.int ((n:Nat):Int)]) (_:kX a H L x l) (_:kX a H L y m) (_:(gro L l).natAbs≤2 ^ 72) (_:(gro L m).natAbs≤2 ^ 72) (_:n≤2 ^ 72) (_:Q (.bl (decide (UNIT≤(gro L l-gro L m).natAbs*n))) H):a1z a vs H Q _E
theorem m4z (T:Txt K mg a):Ok P w K mg base 1 a.wR ["wave","other","minutes"] (a1z a):=by
 refine bD T.oSz mCz ?b ?l ?h;walk_at "o"
 ·obtain⟨x,y,L,l,m,n,rfl,_⟩:=h;rfl
 ·obtain⟨x,y,L,l,m,n,rfl,⟨dx,nx,c,lx,h1,h2,⟨dc,h3⟩,h4⟩,⟨dy,ny,e,ly,g1,g2,⟨de,g3⟩,g4⟩,b1,b2,hn,k⟩:=h
  refine⟨_,(aE (aR (pO BXz (aZ dC (bH qQ (by rfl) T.eXz f0z (aA (aZ oV (aM (aM (pv 0) rfl) rfl) (aM (aM (pv 1) rfl) rfl)) aD)) (pv 2)) (gI T.iJz) (nomark _)))),?_⟩;refine⟨_,rfl,x,_,dx,_,_,rfl,h1,T.jZ,T.fA,gE _ _ _,c,_,dc,_,_,rfl,h3,T.dU,T.dH,dO _ _,_,rfl,y,_,dy,_,_,rfl,g1,T.jZ,T.fA,gE _ _ _,e,_,de,_,_,rfl,g3,T.dU,T.dH,dO _ _,_,_,rfl,rfl,_,rfl,_,rfl,_,_,rfl,rfl,⟨?_,?_⟩,_,_,rfl,rfl,?_⟩
  ·rw [qR,Int.natAbs_natCast]
   exact lt1000 (m:=80) (by omega)
  ·rw [Int.natAbs_natCast];exact lt1000 hn
  ·refine as_v (F:=Q) (congrArg V.bl ?_) k
   rw [qR,Bool.eq_iff_iff,decide_eq_true_eq,decide_eq_true_eq,← Int.natCast_mul];show ((UNIT:Nat):Int)≤_↔_;exact Int.ofNat_le
theorem AZz (p:Int) (d:Nat):Tide.cut p d<2 ^ 32:=by
 unfold Tide.cut;have h1:=Int.emod_nonneg (p*2 ^ 32/(d:Int)) (show (2 ^ 32:Int)≠0 by decide);have h2:=Int.emod_lt_of_pos (p*2 ^ 32/(d:Int)) (show (0:Int)<2 ^ 32 by decide);omega
theorem tE {o g t:Int} (ho:o.natAbs≤2 ^ 73) (hg:g.natAbs≤2 ^ 73) (ht:t.natAbs≤2 ^ 40):(o+g*t).natAbs≤2 ^ 114:=by
 have h1:=Int.natAbs_add_le o (g*t);rw [Int.natAbs_mul] at h1;have h2:=Nat.mul_le_mul hg ht;have h3:2 ^ 73*2 ^ 40=2 ^ 113:=by decide
 omega
theorem oAz {L:List Line} (h:∀l∈L,dW l) {s:List Term} (hs:hEz s):(anglesAt L s 0).natAbs≤2 ^ 73∧(anglesAt L s 1-anglesAt L s 0).natAbs≤2 ^ 73:=by
 have h0:=nY h hs (t:=0) (.inl rfl);have h1:=nY h hs (t:=1) (.inr rfl);omega
theorem iUz (L:List Line) (s:List Term) (t:Int):anglesAt L s 0+(anglesAt L s 1-anglesAt L s 0)*t=anglesAt L s t:=(bVz L s t).symm
def shf (L:List Line) (t:Int) (p:Part):Int:=p.number*S (Tide.cut (anglesAt L p.sum t) UNIT)
def cof (L:List Line) (t:Int) (p:Part):Int:=p.number*C (Tide.cut (anglesAt L p.sum t) UNIT)
theorem dNz (l:List Int) (x:Int):sumInt (l++[x])=sumInt l+x:=by
 induction l with
 | nil=>show x+0=0+x;omega
 | cons y r ih =>
  show y+sumInt (r++[x])=y+sumInt r+x;rw [ih];omega
theorem lG:aI ["wave","minute","shift","member","sway"] ["wave","minute"] (defScope hWz):=by walk_at "s"
inductive dTz (a:Adr) (vs:List V) (H:Hp) (Q:VK) (_E:XK):Prop
 | mk (x L l t) (_:vs=[.ref x,.int t]) (_:Sky L) (_:l∈L) (_:kX a H L x l) (_:t.natAbs≤2 ^ 40) (_:∀H',Same H H'→Q (.int (shift L l t)) H'):dTz a vs H Q _E
theorem pIz (T:Txt K mg a):Ok P w K mg base 7 a.aJz ["wave","minute"] (dTz a):=by
 have G_sine := @BYz P w K mg base a T;have yVz := @wMz P w K mg base a T;have mH := @sF P w K mg base a T;refine bD T.tIz lG ?b ?l ?h;walk_at "o"
 ·obtain⟨x,L,l,t,rfl,_⟩:=h;rfl
 ·obtain⟨x,L,l,t,rfl,hS,hlL,⟨dx,nn,c,lm,h1,h2,h3,⟨ms,h4,h5⟩⟩,ht,k⟩:=h
  refine⟨_,(aB (aP (i:=2) lG.nd rfl (Or.inl rfl) aT)
   (aB (lN PassesOwn.leaving rfl (eT (aM (pv 0) rfl)) (cZ (i:=3) lG.nd rfl (Or.inl rfl))
    (aE (lN PassesOwn.leaving rfl (eT (aM (pv 3) rfl)) (cZ (i:=4) lG.nd rfl (Or.inl rfl))
    (aE (aP (i:=2) lG.nd rfl (Or.inl rfl) (aZ gN (pv 2) (aZ dC (aZ dC (aZ dC (aM (pv 3) rfl) (gI T.AUz)) (aM (pv 4) rfl)) (pc G_sine (hr.mono (by decide)) (by rfl) T.g_sine passN (aA (pc yVz (hr.mono (by decide)) (by rfl) T.CNz passN (aA (pm (aM (pv 4) rfl) T.dU T.gH mH (hr.mono (by decide)) passN (aA (pv 1) aD)) (aA (gI T.iJz) aD))) aD)))))))))
   (aE (aR (pv 2))))),?_⟩
  rw [hRz] at k;have hmo:=pSz hS hlL;generalize mems L l=zs at *;have hlm:ms.length=zs.length:=Paired.length h5;refine⟨_,rfl,x,_,dx,_,_,rfl,h1,T.jZ,T.iW,lT _ _ _,lm,rfl,⟨_,SqL.of h4⟩,iA (K:=K) (a:=lm) (xs:=ms.map V.ref) (fun i σ H'=>∃v3 v4:Option V,σ = [some (.ref x),some (.int t),some (.int (sumInt ((zs.take i).map fun z=>z.1*plainShift L z.2.2 t))),v3,v4]∧Same H H') ⟨none,none,rfl,Same.refl _⟩ (fun i σ H' _ ⟨_,_,_,s⟩=>SqL.of (s _ _ h4)) ?_ ?_⟩
  ·rintro i y σ H1 hi ⟨v3,v4,rfl,s1⟩
   obtain⟨m,hm,rfl⟩:=eI hi;obtain⟨z,hz,dm,lf,ls,m1,m2,⟨ys,m3,m4⟩⟩:=Paired.at_ h5 hm;have hzo:=hmo z (List.mem_of_getElem? hz);have hly:ys.length=z.2.2.length:=Paired.length m4;have htk:=bQ hz;generalize hacc:sumInt ((zs.take i).map fun z=>z.1*plainShift L z.2.2 t)=acc at *;refine⟨_,rfl,m,_,dm,_,_,rfl,s1 _ _ m1,T.iF,T.lR,rL _ _ _,ls,rfl,⟨_,SqL.of (s1 _ _ m3)⟩,iA (K:=K) (a:=ls) (xs:=ys.map V.ref) (fun j σ H'=>∃v4:Option V,σ = [some (.ref x),some (.int t),some (.int (acc+z.1*(60*sumInt ((z.2.2.take j).map (shf L t))))),some (.ref m),v4]∧Same H H') ⟨v4,?_,s1⟩ (fun j σ H' _ ⟨_,_,s⟩=>SqL.of (s _ _ m3)) ?_ ?_⟩
   ·show _=[some (V.ref x),some (V.int t),some (V.int (acc+z.1*(60*0))),some (V.ref m),v4]
    rw [Int.mul_zero,Int.mul_zero,Int.add_zero];rfl
   ·rintro j y σ H2 hj ⟨v4',rfl,s2⟩
    obtain⟨y,hy,rfl⟩:=eI hj;obtain⟨p,hp,dy,cc,y1,⟨dc,y2⟩⟩:=Paired.at_ m4 hy;have hpo:=hzo.shf p (List.mem_of_getElem? hp);have hab:=oAz hS.ok hpo.sum (L:=L);have hat:=tE hab.1 hab.2 ht;rw [iUz] at hat;have hSb:=yTz (Tide.cut (anglesAt L p.sum t) UNIT);have hnum:=hpo.num;have hcnt:=hzo.cnt;refine⟨_,rfl,_,rfl,m,_,dm,_,_,rfl,s2 _ _ m1,T.iF,T.nP,sQ _ _ _,_,_,rfl,rfl,⟨lD (n:=16) (by omega),by decide⟩,_,rfl,y,_,dy,_,_,rfl,s2 _ _ y1,T.aLz,T.pS,uZ _ _,_,_,rfl,rfl,⟨lD (n:=901) (by rw [Int.natAbs_mul];show z.1.natAbs*60<901;omega),lD hnum⟩,_,rfl,y,_,dy,_,_,rfl,s2 _ _ y1,T.aLz,T.pT,vA _ _,cc,dc,_,rfl,s2 _ _ y2,lV _ _,_,rfl,cc,_,_,t,rfl,⟨dc,s2 _ _ y2⟩,Nat.le_trans hab.2 (Nat.pow_le_pow_right (by decide) (by decide)),Nat.le_trans ht (Nat.pow_le_pow_right (by decide) (by decide)),_,UNIT,rfl,?_,⟨by decide,?_⟩,Tide.cut (anglesAt L p.sum t) UNIT,?_,AZz _ _,fun H3 s3=>?_⟩
    ·rw [iUz]
     exact Nat.le_trans hat (Nat.pow_le_pow_right (by decide) (by decide))
    ·exact Nat.le_trans (show UNIT≤2 ^ 60 by decide) (Nat.pow_le_pow_right (by decide) (by decide))
    ·rw [iUz]
    ·refine⟨_,_,rfl,rfl,⟨?_,bUz hSb⟩,_,_,rfl,rfl,some (V.ref y),?_,s2.trans s3⟩
     ·refine lD (n:=2 ^ 100) ?_ (Nat.pow_le_pow_right (by decide) (by decide))
      rw [Int.natAbs_mul,Int.natAbs_mul];have a1:z.1.natAbs*(60:Int).natAbs≤15*60:=Nat.mul_le_mul_right _ hcnt;have a2:=Nat.mul_le_mul a1 (Nat.le_of_lt hnum);exact Nat.lt_of_le_of_lt a2 (by decide)
     ·rw [bQ hp,List.map_append,List.map_singleton,dNz]
      show [some (V.ref x),some (V.int t),some (V.int (acc+z.1*(60*sumInt ((z.2.2.take j).map (shf L t)))+z.1*60*p.number*S (Tide.cut (anglesAt L p.sum t) UNIT))),some (V.ref m),some (V.ref y)]=_;have e:acc+z.1*(60*sumInt ((z.2.2.take j).map (shf L t)))+z.1*60*p.number*S (Tide.cut (anglesAt L p.sum t) UNIT)=acc+z.1*(60*(sumInt ((z.2.2.take j).map (shf L t))+shf L t p)):=by
       unfold shf;rw [Int.mul_add,Int.mul_add,Int.mul_assoc,Int.mul_assoc,Int.add_assoc]
      rw [e]
   ·rintro σ H' ⟨v4',rfl,s2⟩
    rw [List.length_map,hly,List.take_length];refine⟨some (V.ref m),v4',?_,s2⟩;rw [htk,List.map_append,List.map_singleton,dNz,hacc];rfl
  ·rintro σ H' ⟨v3,v4,rfl,s1⟩
   rw [List.length_map,hlm,List.take_length];exact⟨_,rfl,k H' s1⟩
theorem aRz {L:List Line} {t:Int} (ps:List Part):(sumInt (ps.map (cof L t))).natAbs≤sumNat (ps.map fun p=>p.number.natAbs)*2 ^ 36:=hMz (f:=fun p=>p.number) (g:=fun p=>C (Tide.cut (anglesAt L p.sum t) UNIT)) fun p _=>qVz _
theorem uAz {X:Int} (h:X.natAbs≤10 ^ 12*2 ^ 37):(Tide.nearest X (10 ^ 12)).natAbs≤2 ^ 39:=by
 unfold Tide.nearest;rw [show ((10 ^ 12:Nat):Int)=1000000000000 from rfl];have h':X.natAbs≤137438953472000000000000:=h;omega
theorem rZz {L:List Line} {fs:List Part} {t:Int} (h:sumNat (fs.map fun p=>p.number.natAbs)<10 ^ 12):(plainFactor L fs t).natAbs≤2 ^ 39:=by
 unfold plainFactor;refine uAz ?_;have h1:=aRz (L:=L) (t:=t) fs;have h2:sumNat (fs.map fun p=>p.number.natAbs)*2 ^ 36≤10 ^ 12*2 ^ 36:=Nat.mul_le_mul_right _ (Nat.le_of_lt h);show (2 ^ 30*10 ^ 12+sumInt (fs.map (cof L t))).natAbs≤_;have h3:=Int.natAbs_add_le (2 ^ 30*10 ^ 12) (sumInt (fs.map (cof L t)));have h4:((2:Int) ^ 30*10 ^ 12).natAbs≤10 ^ 12*2 ^ 36:=by decide
 omega
theorem eG:aI ["member","minute","swings","sway"] ["member","minute"] (defScope mS):=by walk_at "s"
inductive lC (a:Adr) (vs:List V) (H:Hp) (Q:VK) (_E:XK):Prop
 | mk (x L z t) (_:vs=[.ref x,.int t]) (_:Sky L) (_:iT a H L x z) (_:z7z z) (_:t.natAbs≤2 ^ 40) (_:∀H',Same H H'→Q (.int (plainFactor L z.2.1 t)) H'):lC a vs H Q _E
theorem vS (T:Txt K mg a):Ok P w K mg base 6 a.iE ["member","minute"] (lC a):=by
 have kSz := @m2z P w K mg base a T;have yVz := @wMz P w K mg base a T;have f8z := @iBz P w K mg base a T;have mH := @sF P w K mg base a T;refine bD T.xC eG ?b ?l ?h;walk_at "o"
 ·obtain⟨x,L,z,t,rfl,_⟩:=h;rfl
 ·obtain⟨x,L,z,t,rfl,hS,⟨dx,lf,ls,h1,⟨ys,h2,h3⟩,_⟩,hmo,ht,k⟩:=h
  refine⟨_,(aB (aP (i:=2) eG.nd rfl (Or.inl rfl) (bH (fWz rfl) (by rfl) T.eWz fZz (aA (jVz (own:=[("sway",3)]) rfl eG.nd (eT (aM (pv 0) rfl)) (kW (by rfl)) (fun _ _ _ _ _=>(cZ (i:=3) eG.nd rfl (Or.inl rfl))) (fun _ _ _ _ _=>sC) (fun _ _ _ _ _=>(aZ dC (jL (K:=K) (pv 3) rfl) (pc kSz (hr.mono (by decide)) (by rfl) T.sPz passN (aA (pc yVz (hr.mono (by decide)) (by rfl) T.CNz passN (aA (pm (jL (K:=K) (pv 3) rfl) T.dU T.gH mH (hr.mono (by decide)) passN (aA (pv 1) aD)) (aA (gI T.iJz) aD))) aD))))) aD)))
   (aE (aR (pc f8z (hr.mono (by decide)) (by rfl) T.nRz passN (aA (aZ gN (aZ dC (gI T.xGz) (gI T.xIz)) (pv 2)) (aA (gI T.xIz) aD)))))),?_⟩
  have hly:ys.length=z.2.1.length:=Paired.length h3;refine⟨_,rfl,x,_,dx,_,_,rfl,h1,T.iF,T.jM,oZ _ _ _,lf,rfl,⟨_,SqL.of h2⟩,fun D hD=>?_⟩;refine wD (K:=K) (l:=lf) (xs:=ys.map V.ref) (g:=gName 3) (tt:=tYes) (vs:=[3]) (σ := [some (.ref x),some (.int t),none,none]) (fun i H'=>Same H H'∧H' D=some (.lst (((z.2.1.take i).map (cof L t)).map V.int))) ⟨aF hD,aC⟩ (fun i H' _ e=>SqL.of (e.1 _ _ h2)) (fun H' e=>?_) ?_
  ·obtain⟨s1,hD1⟩:=e
   rw [List.length_map,hly,List.take_length] at hD1;refine⟨D,_,rfl,SqL.of hD1,?_⟩;dsimp only [gName];have hb:=aRz (L:=L) (t:=t) z.2.1;have hl:=hmo.lrg;have hb2:(sumInt (z.2.1.map (cof L t))).natAbs≤10 ^ 12*2 ^ 36:=Nat.le_trans hb (Nat.mul_le_mul_right _ (Nat.le_of_lt hl));refine⟨_,_,rfl,rfl,⟨by decide,by decide⟩,_,rfl,_,_,rfl,rfl,2 ^ 30*10 ^ 12+sumInt (z.2.1.map (cof L t)),10 ^ 12,rfl,?_,⟨by decide,?_⟩,k H' s1⟩
   ·have h3:=Int.natAbs_add_le (2 ^ 30*10 ^ 12) (sumInt (z.2.1.map (cof L t)))
    have h4:((2:Int) ^ 30*10 ^ 12).natAbs≤10 ^ 12*2 ^ 36:=by decide
    refine Nat.le_trans (show _≤2 ^ 100 from ?_) (Nat.pow_le_pow_right (by decide) (by decide));omega
   ·exact Nat.le_trans (show 10 ^ 12≤2 ^ 60 by decide) (Nat.pow_le_pow_right (by decide) (by decide))
  ·rintro i y H2 hi ⟨s2,hD2⟩
   obtain⟨y,hy,rfl⟩:=eI hi;obtain⟨p,hp,dy,cc,y1,⟨dc,y2⟩⟩:=Paired.at_ h3 hy;have hpo:=hmo.fac p (List.mem_of_getElem? hp);have hab:=oAz hS.ok hpo.sum (L:=L);have hat:=tE hab.1 hab.2 ht;rw [iUz] at hat;have hSb:=qVz (Tide.cut (anglesAt L p.sum t) UNIT);have hnum:=hpo.num;refine⟨rfl,?_⟩;simp only [tYes,if_true];refine⟨_,rfl,y,_,dy,_,_,rfl,s2 _ _ y1,T.aLz,T.pS,uZ _ _,_,rfl,y,_,dy,_,_,rfl,s2 _ _ y1,T.aLz,T.pT,vA _ _,cc,dc,_,rfl,s2 _ _ y2,lV _ _,_,rfl,cc,_,_,t,rfl,⟨dc,s2 _ _ y2⟩,Nat.le_trans hab.2 (Nat.pow_le_pow_right (by decide) (by decide)),Nat.le_trans ht (Nat.pow_le_pow_right (by decide) (by decide)),_,UNIT,rfl,?_,⟨by decide,?_⟩,Tide.cut (anglesAt L p.sum t) UNIT,?_,AZz _ _,fun H3 s3=>?_⟩
   ·rw [iUz]
    exact Nat.le_trans hat (Nat.pow_le_pow_right (by decide) (by decide))
   ·exact Nat.le_trans (show UNIT≤2 ^ 60 by decide) (Nat.pow_le_pow_right (by decide) (by decide))
   ·rw [iUz]
   ·refine⟨_,_,rfl,rfl,⟨lD hnum,bUz hSb⟩,_,s3 _ _ hD2,?_,?_,?_⟩
    ·rw [List.length_map,List.length_map,List.length_take,sizeLine_eq]
     have:=hmo.lf
     omega
    ·exact bZ (s2.trans s3) hD
    ·rw [aC,bQ hp,List.map_append,List.map_append]
     rfl
theorem pow30 (n:Nat):(2:Nat) ^ (30*n)*1073741824=2 ^ (30*(n+1)):=by
 rw [Nat.mul_add,Nat.pow_add]
theorem eF:aI ["wave","minute","product","divisor","member","factor","step"] ["wave","minute"] (defScope eDz):=by walk_at "s"
inductive a0z (a:Adr) (vs:List V) (H:Hp) (Q:VK) (_E:XK):Prop
 | mk (x L c r l t) (_:vs=[.ref x,.int t]) (_:Sky L) (_:L=c++l::r) (_:l.isAngle=false) (_:kX a H L x l) (_:t.natAbs≤2 ^ 40) (_:∀H',Same H H'→Q (.int (factor L l t)) H'):a0z a vs H Q _E
theorem m1z (T:Txt K mg a):Ok P w K mg base 7 a.wQ ["wave","minute"] (a0z a):=by
 have yW := @vS P w K mg base a T;have f8z := @iBz P w K mg base a T;refine bD T.oRz eF ?b ?l ?h;walk_at "o"
 ·obtain⟨x,L,c,r,l,t,rfl,_⟩:=h;rfl
 ·obtain⟨x,L,cb,r,l,t,rfl,hS,hLb,hA,⟨dx,nn,c,lm,h1,h2,h3,⟨ms,h4,h5⟩⟩,ht,k⟩:=h
  refine⟨_,(aB (aP (i:=2) eF.nd rfl (Or.inl rfl) (gI T.xGz))
   (aB (aP (i:=3) eF.nd rfl (Or.inl rfl) aT)
   (aB (lN PassesOwn.leaving rfl (eT (aM (pv 0) rfl)) (cZ (i:=4) eF.nd rfl (Or.inl rfl))
    (aB (aP (i:=5) eF.nd rfl (Or.inl rfl) (pc yW (hr.mono (by decide)) (by rfl) T.yN passN (aA (pv 4) (aA (pv 1) aD))))
   (aE (lN PassesOwn.leaving rfl (wGz (by rfl) T.sGz (aA (bH qQ (by rfl) T.eXz f0z (aA (aM (pv 4) rfl) aD)) aD)) (cZ (i:=6) eF.nd rfl (Or.inl rfl))
    (aB (aP (i:=2) eF.nd rfl (Or.inl rfl) (aZ dC (pv 2) (pv 5)))
   (aE (aP (i:=3) eF.nd rfl (Or.inl rfl) (aZ dC (pv 3) (gI T.xGz)))))))))
   (aE (aR (pc f8z (hr.mono (by decide)) (by rfl) T.nRz passN (aA (pv 2) (aA (pv 3) aD)))))))),?_⟩
  rw [p8z hS hLb hA] at k;have hlL:l∈L:=by rw [hLb];exact List.mem_append_right _ (List.mem_cons_self ..)
  have hmo:=pSz hS hlL;have hcn:=wUz hS hLb;generalize mems L l=zs at *;have hlm:ms.length=zs.length:=Paired.length h5;have hsub:∀i,cnts (zs.take i)≤12:=fun i=>by
   have e:cnts zs=cnts (zs.take i)+cnts (zs.drop i):=by rw [← sWz,List.take_append_drop]
   omega
  have hfb:∀(ws:List (Int×List Part×List Part)),(∀z∈ws,z∈zs)→(facs L t ws).natAbs≤2 ^ (39*cnts ws):=fun ws hw=>iNz fun z hz=>rZz (hmo z (hw z hz)).lrg;refine⟨_,rfl,x,_,dx,_,_,rfl,h1,T.jZ,T.iW,lT _ _ _,lm,rfl,⟨_,SqL.of h4⟩,iA (K:=K) (a:=lm) (xs:=ms.map V.ref) (fun i σ H'=>∃v4 v5 v6:Option V,σ = [some (.ref x),some (.int t),some (.int (2 ^ 30*facs L t (zs.take i))),some (.int ((2 ^ (30*cnts (zs.take i)):Nat):Int)),v4,v5,v6]∧Same H H') ⟨none,none,none,?_,Same.refl _⟩ (fun i σ H' _ ⟨_,_,_,_,s⟩=>SqL.of (s _ _ h4)) ?_ ?_⟩
  ·rfl
  ·rintro i y σ H1 hi ⟨v4,v5,v6,rfl,s1⟩
   obtain⟨m,hm,rfl⟩:=eI hi;obtain⟨z,hz,hM⟩:=Paired.at_ h5 hm;have hzo:=hmo z (List.mem_of_getElem? hz);have htk:=bQ hz;have hsn:cnts (zs.take (i+1))=cnts (zs.take i)+z.1.natAbs:=by
    rw [htk,sWz];show _+(z.1.natAbs+0)=_;rw [Nat.add_zero]
   have hs12:=hsub (i+1);have hfac:=hfb (zs.take i) fun z hz=>List.mem_of_mem_take hz;have hpf:=rZz (L:=L) (t:=t) hzo.lrg;refine⟨_,rfl,_,rfl,m,L,z,t,rfl,hS,hM.sd (.of s1),hzo,ht,fun H2 s2=>?_⟩;dsimp only [gName];obtain⟨dm,lf,ls,m1,_⟩:=id hM;have s12:=s1.trans s2;generalize hF:plainFactor L z.2.1 t=F at *;generalize hP:facs L t (zs.take i)=Pd at *;generalize hN:cnts (zs.take i)=N0 at *;refine⟨_,rfl,m,_,dm,_,_,rfl,s12 _ _ m1,T.iF,T.nP,sQ _ _ _,_,rfl,_,rfl,?_,?_,?_⟩
   ·rw [qR];omega
   ·rw [qR];have:=hzo.cnt;omega
   rw [qR,Int.toNat_natCast];refine nTz (lo:=0) (n:=z.1.natAbs) (fun j σ H'=>∃v6:Option V,σ = [some (.ref x),some (.int t),some (.int (2 ^ 30*(Pd*F ^ j))),some (.int ((2 ^ (30*(N0+j)):Nat):Int)),some (.ref m),some (.int F),v6]∧Same H H') ⟨v6,?_,s12⟩ ?_ ?_
   ·rw [Int.pow_zero,Int.mul_one]
    rfl
   ·rintro j σ H3 hj ⟨v6',rfl,s3⟩
    have hj12:N0+j<12:=by omega
    refine⟨_,rfl,_,rfl,_,_,rfl,rfl,⟨?_,bUz hpf⟩,_,rfl,_,_,rfl,rfl,⟨?_,by decide⟩,some (.int (0+(j:Nat))),?_,s3⟩
    ·have b1:=mMz hpf j
     have b2:((2:Int) ^ 30*(Pd*F ^ j)).natAbs≤2 ^ 30*(2 ^ (39*N0)*2 ^ (39*j)):=by
      rw [Int.natAbs_mul,Int.natAbs_mul];exact Nat.mul_le_mul (by decide) (Nat.mul_le_mul hfac b1)
     rw [← Nat.pow_add,← Nat.pow_add] at b2;exact Nat.lt_of_le_of_lt b2 (Nat.pow_lt_pow_right (by decide) (by omega))
    ·rw [Int.natAbs_natCast]
     exact Nat.pow_lt_pow_right (by decide) (by omega)
    ·show [some (V.ref x),some (V.int t),some (V.int (2 ^ 30*(Pd*F ^ j)*F)),some (V.int (((2 ^ (30*(N0+j)):Nat):Int)*1073741824)),some (V.ref m),some (V.int F),some (V.int (0+(j:Nat)))]=_
     have e1:(2:Int) ^ 30*(Pd*F ^ j)*F=2 ^ 30*(Pd*F ^ (j+1)):=by
      rw [show F ^ (j+1)=F ^ j*F from Int.pow_succ ..,Int.mul_assoc,Int.mul_assoc]
     have e2:((2 ^ (30*(N0+j)):Nat):Int)*1073741824=((2 ^ (30*(N0+(j+1))):Nat):Int):=by
      rw [← Nat.add_assoc,← pow30,Int.natCast_mul];rfl
     rw [e1,e2]
   ·rintro σ H3 ⟨v6',rfl,s3⟩
    refine⟨some (.ref m),some (.int F),v6',?_,s3⟩;rw [htk,xVz,hP,hF,← htk,hsn]
  ·rintro σ H' ⟨v4,v5,v6,rfl,s1⟩
   rw [List.length_map,hlm,List.take_length];have hfac:=hfb zs fun z hz=>hz;refine⟨_,rfl,_,rfl,_,2 ^ (30*cnts zs),rfl,?_,⟨Nat.pow_pos (by decide),Nat.pow_le_pow_right (by decide) (by omega)⟩,k H' s1⟩;have b2:((2:Int) ^ 30*facs L t zs).natAbs≤2 ^ 30*2 ^ (39*cnts zs):=by
    rw [Int.natAbs_mul];exact Nat.mul_le_mul (by decide) hfac
   rw [← Nat.pow_add] at b2;exact Nat.le_trans b2 (Nat.pow_le_pow_right (by decide) (by omega))
theorem o6z {L:List Line} (S:Sky L) {l:Line} (h:l∈L) (t:Int):(shift L l t).natAbs≤2 ^ 120:=by
 rw [hRz];have hmo:=pSz S h;have hb:=oA (f:=fun z:Int×List Part×List Part=>z.1*plainShift L z.2.2 t) (M:=15*(60*(8*(10 ^ 15*2 ^ 36)))) (s:=mems L l) fun z hz=>by
  have ho:=hmo z hz;rw [Int.natAbs_mul];refine Nat.mul_le_mul ho.cnt ?_;unfold plainShift;rw [Int.natAbs_mul];refine Nat.mul_le_mul (Nat.le_refl _) ?_;have h2:=oA (f:=shf L t) (M:=10 ^ 15*2 ^ 36) (s:=z.2.2) fun p hp=>by
   unfold shf;rw [Int.natAbs_mul];exact Nat.mul_le_mul (Nat.le_of_lt (ho.shf p hp).num) (yTz _)
  exact Nat.le_trans h2 (Nat.mul_le_mul_right _ ho.ls)
 exact Nat.le_trans hb (Nat.le_trans (Nat.mul_le_mul_right _ (zJz S h)) (by decide))
def standsV (L:List Line) (l:Line) (t b:Int) (n:Nat):List V:=(List.range n).map fun k:Nat=>V.int ((stands L l (t+k) b:Nat):Int)
theorem lKz (L:List Line) (l:Line) (t b:Int) (n:Nat):standsV L l t b (n+1)=standsV L l t b n++[V.int ((stands L l (t+n) b:Nat):Int)]:=by
 unfold standsV;rw [List.range_succ,List.map_append];rfl
theorem pH (L:List Line) (l:Line) (t b:Int) (n:Nat):(standsV L l t b n).length=n:=by
 unfold standsV;rw [List.length_map,List.length_range]
theorem mQ:aI ["wave","first_minute","many","steady_minute","shift","places","minute"] ["wave","first_minute","many","steady_minute"] (defScope eBz):=by walk_at "s"
inductive aYz (a:Adr) (vs:List V) (H:Hp) (Q:VK) (_E:XK):Prop
 | mk (x L l t n b) (_:vs=[.ref x,.int t,.int ((n:Nat):Int),.int b]) (_:Sky L) (_:l∈L) (_:l.isAngle=false) (_:kX a H L x l) (_:t.natAbs≤2 ^ 35) (_:b.natAbs≤2 ^ 35) (_:n≤256) (_:∀H' D,Same H H'→H D=none→H' D=some (.lst (standsV L l t b n))→Q (.ref D) H'):aYz a vs H Q _E
theorem bIz (T:Txt K mg a):Ok P w K mg base 8 a.wO ["wave","first_minute","many","steady_minute"] (aYz a):=by
 have u1z := @pIz P w K mg base a T;have yVz := @wMz P w K mg base a T;have mH := @sF P w K mg base a T;refine bD T.oPz mQ ?b ?l ?h;walk_at "o"
 ·obtain⟨x,L,l,t,n,b,rfl,_⟩:=h;rfl
 ·obtain⟨x,L,l,t,n,b,rfl,hS,hlL,hA,hW,ht,hb,hn,k⟩:=h
  refine⟨_,(aB (aP (i:=4) mQ.nd rfl (Or.inl rfl) (pc u1z (hr.mono (by decide)) (by rfl) T.uPz passN (aA (pv 0) (aA (pv 3) aD))))
   (aB (aP (i:=5) mQ.nd rfl (Or.inl rfl) (dM aD))
   (aB (lN PassesOwn.leaving rfl (wFz (by rfl) T.sGz (aA (pv 1) (aA (aZ gN (pv 1) (pv 2)) aD))) (cZ (i:=6) mQ.nd rfl (Or.inl rfl))
    (aE (aU (kP PySem.F.plainAttrs_list PySem.F.slot_list_append PySem.F.type_list_append hJ (pv 5) (aA (pc yVz (hr.mono (by decide)) (by rfl) T.CNz passN (aA (aZ gN (aZ dC (pm (aM (pv 0) rfl) T.dU T.gH mH (hr.mono (by decide)) passN (aA (pv 6) aD)) (gI T.xGz)) (pv 4)) (aA (aZ dC (gI T.iJz) (gI T.xGz)) aD))) aD)))))
   (aE (aR (pv 5)))))),?_⟩
  obtain⟨dx,nn,c,lm,h1,h2,⟨dc,h3⟩,h4⟩:=id hW;have hsb:=o6z hS hlL b;have hob:=oU hS.ok (hS.ok l hlL);refine⟨_,rfl,_,rfl,x,L,l,b,rfl,hS,hlL,hW,Nat.le_trans hb (by decide),fun H1 s1=>?_⟩;dsimp only [gName];refine⟨Nat.zero_le _,fun D hD=>?_⟩;dsimp only [gName];have hD0:H D=none:=s1.free hD;refine⟨_,rfl,_,rfl,_,rfl,_,_,rfl,rfl,_,_,rfl,⟨by omega,by omega,by omega,by omega⟩,?_⟩;rw [show (t+(n:Int)-t).toNat=n by omega];refine nTz (lo:=t) (n:=n) (fun j σ H'=>∃v6:Option V,σ = [some (.ref x),some (.int t),some (.int ((n:Nat):Int)),some (.int b),some (.int (shift L l b)),some (.ref D),v6]∧H'=upd H1 D (.lst (standsV L l t b j))) ⟨none,rfl,rfl⟩ ?_ ?_
  ·rintro j σ H' hj ⟨v6,rfl,rfl⟩
   have s2:Same H (upd H1 D (.lst (standsV L l t b j))):=bZ s1 hD0;have hat:=tE (Nat.le_trans hob.1 (by decide)) (Nat.le_trans hob.2 (by decide)) (show (t+(j:Int)).natAbs≤2 ^ 40 by omega);have hA1:org L l+gro L l*(t+(j:Int))=argument L l (t+j):=by rw [Aof_at,qWz hA]
   refine⟨_,rfl,.inl ⟨rfl,_,SqL.of aC⟩,_,rfl,x,_,dx,_,_,rfl,s2 _ _ h1,T.jZ,T.fA,gE _ _ _,c,dc,_,rfl,s2 _ _ h3,lV _ _,_,rfl,c,_,_,t+(j:Int),rfl,⟨dc,s2 _ _ h3⟩,Nat.le_trans hob.2 (Nat.pow_le_pow_right (by decide) (by decide)),Nat.le_trans (show (t+(j:Int)).natAbs≤2 ^ 40 by omega) (Nat.pow_le_pow_right (by decide) (by decide)),_,_,rfl,rfl,⟨bUz hat,by decide⟩,_,rfl,_,_,rfl,rfl,_,_,rfl,rfl,⟨by decide,by decide⟩,argument L l (t+j)*2 ^ 30+shift L l b,UNIT*2 ^ 30,?_,?_,⟨by decide,?_⟩,?_⟩
   ·refine congrArg (fun z=>[V.int z,_]) ?_
    show (org L l+gro L l*(t+(j:Int)))*1073741824+shift L l b=_;rw [hA1];rfl
   ·rw [← hA1]
    have e1:=Int.natAbs_add_le ((org L l+gro L l*(t+(j:Int)))*2 ^ 30) (shift L l b);rw [Int.natAbs_mul] at e1;have e2:=Nat.mul_le_mul_right ((2:Int) ^ 30).natAbs hat;have e3:2 ^ 114*((2:Int) ^ 30).natAbs=2 ^ 144:=by decide
    refine Nat.le_trans (show _≤2 ^ 145 by omega) (Nat.pow_le_pow_right (by decide) (by decide))
   ·exact Nat.le_trans (show UNIT*2 ^ 30≤2 ^ 100 by decide) (Nat.pow_le_pow_right (by decide) (by decide))
   ·refine⟨D,_,_,rfl,rfl,aC,?_,_,rfl,?_⟩
    ·rw [pH,sizeLine_eq];omega
    ·rw [cE,lKz]
     rfl
  ·rintro σ H' ⟨v6,rfl,rfl⟩
   exact⟨_,rfl,k _ D (bZ s1 hD0) hD0 aC⟩
structure Nc (a:Adr) (C:Addr):Prop where
 t:a.iI≠C
 s:a.iS≠C
 al:a.cJ≠C
 wl:a.cM≠C
 sl:a.eD≠C
 co:a.jA≠C
 sw:a.vE≠C
 me:a.eW≠C
 wv:a.nH≠C
section
variable {C:Addr} {H H':Hp} {L:List Line}
theorem Kp.dT {d:Addr} {kvs:List (List Key×V)} (s:Kp C H H') (h:H d=some (.dT kvs)):H' d=some (.dT kvs):=s.keep d _ h (by intro x y z;cases z)
theorem pD.kc {x:Addr} {t:Term} (h:pD a H x t) (s:Kp C H H') (n:Nc a C):pD a H' x t:=let ⟨dx,m,h1,h2⟩:=h;⟨dx,m,s.ins h1 n.t,s.tup h2⟩
theorem eX.kc {l:Addr} {ts:List Term} (h:eX a H l ts) (s:Kp C H H') (n:Nc a C):eX a H' l ts:=let ⟨as,h1,h2⟩:=h;⟨as,s.lst h1,Paired.mapP h2 fun _ _ z=>z.kc s n⟩
theorem iG.kc {x:Addr} {p:Part} (h:iG a H x p) (s:Kp C H H') (n:Nc a C):iG a H' x p:=let ⟨dx,l,h1,h2⟩:=h;⟨dx,l,s.ins h1 n.s,h2.kc s n⟩
theorem eU.kc {l:Addr} {ps:List Part} (h:eU a H l ps) (s:Kp C H H') (n:Nc a C):eU a H' l ps:=let ⟨as,h1,h2⟩:=h;⟨as,s.lst h1,Paired.mapP h2 fun _ _ z=>z.kc s n⟩
theorem fS.kc {x:Addr} (n:Nc a C):∀{l:Line},fS a H x l→Kp C H H'→fS a H' x l
 | .angle _ _ _ _,h,s=>let ⟨dx,nn,h1,h2⟩:=h;⟨dx,nn,s.ins h1 n.al,s.tup h2⟩
 | .wave _ _ _ _ _ _,h,s=>let ⟨dx,nn,lt,lf,ls,h1,h2,h3,h4,h5⟩:=h;⟨dx,nn,lt,lf,ls,s.ins h1 n.wl,s.tup h2,h3.kc s n,h4.kc s n,h5.kc s n⟩
 | .sum _ _ _,h,s=>let ⟨dx,nn,lt,h1,h2,h3⟩:=h;⟨dx,nn,lt,s.ins h1 n.sl,s.tup h2,h3.kc s n⟩
theorem pE.kc {l:Addr} {ls:List Line} (h:pE a H l ls) (s:Kp C H H') (n:Nc a C):pE a H' l ls:=let ⟨as,h1,h2⟩:=h;⟨as,s.lst h1,Paired.mapP h2 fun _ _ z=>z.kc n s⟩
theorem pE.same {l:Addr} {ls:List Line} (h:pE a H l ls) (s:Same H H'):pE a H' l ls:=let ⟨as,h1,h2⟩:=h;⟨as,s _ _ h1,Paired.mapP h2 fun _ _ z=>z.same s⟩
theorem cC.kc {c:Addr} {o g:Int} (h:cC a H c o g) (s:Kp C H H') (n:Nc a C):cC a H' c o g:=let ⟨dx,h1⟩:=h;⟨dx,s.ins h1 n.co⟩
theorem wV.kc {x:Addr} {p:Part} (h:wV a H L x p) (s:Kp C H H') (n:Nc a C):wV a H' L x p:=let ⟨dx,c,h1,h2⟩:=h;⟨dx,c,s.ins h1 n.sw,h2.kc s n⟩
theorem mE.kc {l:Addr} {ps:List Part} (h:mE a H L l ps) (s:Kp C H H') (n:Nc a C):mE a H' L l ps:=let ⟨as,h1,h2⟩:=h;⟨as,s.lst h1,Paired.mapP h2 fun _ _ z=>z.kc s n⟩
theorem iT.kc {m:Addr} {z:Int×List Part×List Part} (h:iT a H L m z) (s:Kp C H H') (n:Nc a C):iT a H' L m z:=let ⟨dx,lf,ls,h1,h2,h3⟩:=h;⟨dx,lf,ls,s.ins h1 n.me,h2.kc s n,h3.kc s n⟩
theorem gF.kc {l:Addr} {zs:List (Int×List Part×List Part)} (h:gF a H L l zs) (s:Kp C H H') (n:Nc a C):gF a H' L l zs:=let ⟨as,h1,h2⟩:=h;⟨as,s.lst h1,Paired.mapP h2 fun _ _ z=>z.kc s n⟩
theorem kX.kc {x:Addr} {l:Line} (h:kX a H L x l) (s:Kp C H H') (n:Nc a C):kX a H' L x l:=let ⟨dx,nn,c,lm,h1,h2,h3,h4⟩:=h;⟨dx,nn,c,lm,s.ins h1 n.wv,s.tup h2,cC.kc h3 s n,h4.kc s n⟩
theorem yT.kc {l:Addr} {ws:List Line} (h:yT a H L l ws) (s:Kp C H H') (n:Nc a C):yT a H' L l ws:=let ⟨as,h1,h2⟩:=h;⟨as,s.lst h1,Paired.mapP h2 fun _ _ z=>z.kc s n⟩
theorem cC.sn {c:Addr} {o g:Int} (h:cC a H c o g) (s:kC H H'):cC a H' c o g:=let ⟨dx,h1⟩:=h;⟨dx,s _ _ h1 (by intro x u z;cases z)⟩
theorem wV.sn {x:Addr} {p:Part} (h:wV a H L x p) (s:kC H H'):wV a H' L x p:=let ⟨dx,c,h1,h2⟩:=h;⟨dx,c,s _ _ h1 (by intro x u z;cases z),h2.sn s⟩
theorem mE.sn {l:Addr} {ps:List Part} (h:mE a H L l ps) (s:kC H H'):mE a H' L l ps:=let ⟨as,h1,h2⟩:=h;⟨as,s _ _ h1 (by intro x u z;cases z),Paired.mapP h2 fun _ _ z=>z.sn s⟩
theorem iT.sn {m:Addr} {z:Int×List Part×List Part} (h:iT a H L m z) (s:kC H H'):iT a H' L m z:=let ⟨dx,lf,ls,h1,h2,h3⟩:=h;⟨dx,lf,ls,s _ _ h1 (by intro x u z;cases z),h2.sn s,h3.sn s⟩
theorem gF.sn {l:Addr} {zs:List (Int×List Part×List Part)} (h:gF a H L l zs) (s:kC H H'):gF a H' L l zs:=let ⟨as,h1,h2⟩:=h;⟨as,s _ _ h1 (by intro x u z;cases z),Paired.mapP h2 fun _ _ z=>z.sn s⟩
theorem kX.sn {x:Addr} {l:Line} (h:kX a H L x l) (s:kC H H'):kX a H' L x l:=let ⟨dx,nn,c,lm,h1,h2,h3,h4⟩:=h;⟨dx,nn,c,lm,s _ _ h1 (by intro x u z;cases z),s _ _ h2 (by intro x u z;cases z),cC.sn h3 s,h4.sn s⟩
theorem yT.sn {l:Addr} {ws:List Line} (h:yT a H L l ws) (s:kC H H'):yT a H' L l ws:=let ⟨as,h1,h2⟩:=h;⟨as,s _ _ h1 (by intro x u z;cases z),Paired.mapP h2 fun _ _ z=>z.sn s⟩
end
def fl_Sky (v0 v1 v2 v3:V):List (Str×V):=[("angles",v0),("waves",v1),("numbers",v2),("printed",v3)]
def numsOf:Nat→List Line→List (List Key×V)
 | _,[]=>[]
 | i,w::r=>(kOf w.name,.int (i:Nat))::numsOf (i+1) r
theorem iEz:∀(i:Nat) (l m:List Line),numsOf i (l++m)=numsOf i l++numsOf (i+l.length) m
 | i,[],m=>by rw [List.length_nil,Nat.add_zero];rfl
 | i,w::r,m=>by
  show (kOf w.name,V.int ((i:Nat):Int))::numsOf (i+1) (r++m)=(kOf w.name,V.int ((i:Nat):Int))::(numsOf (i+1) r++numsOf (i+(r.length+1)) m);rw [iEz (i+1) r m,show i+1+r.length=i+(r.length+1) by omega]
theorem vT:∀(i:Nat) (l:List Line),(numsOf i l).map (·.1)=(l.map Line.name).map kOf
 | _,[]=>rfl
 | i,w::r=>congrArg (kOf w.name :: ·) (vT (i+1) r)
theorem iDz:∀(i:Nat) (l:List Line) (n:Bytes),valV (numsOf i l) (kOf n)=(l.findIdx? fun w=>w.name == n).map fun k=>V.int ((i+k:Nat):Int)
 | _,[],_=>rfl
 | i,w::r,n=>by
  rw [List.findIdx?_cons]
  by_cases e:w.name=n
  ·rw [show (w.name == n)=true by rw [e];exact beq_self_eq_true _]
   exact tI (p:=(kOf w.name,V.int ((i:Nat):Int))) (by rw [e])
  ·rw [show (w.name == n)=false from beq_eq_false_iff_ne.mpr e]
   have:=tK (p:=(kOf w.name,V.int ((i:Nat):Int))) (r:=numsOf (i+1) r) (k:=kOf n) fun z=>e (kBz z)
   rw [show numsOf i (w::r)=(kOf w.name,V.int ((i:Nat):Int))::numsOf (i+1) r from rfl,this,iDz (i+1) r n];simp only [Bool.false_eq_true,if_false];cases r.findIdx? fun w=>w.name == n with
   | none=>rfl
   | some k =>
    show some (V.int ((i+1+k:Nat):Int))=some (V.int ((i+(k+1):Nat):Int));rw [show i+1+k=i+(k+1) by omega]
theorem rVz:∀(kvs acc:List (List Key×V)),((acc++kvs).map (·.1)).Nodup→mergeT acc kvs=acc++kvs
 | [],acc,_=>(List.append_nil _).symm
 | p::r,acc,h=>by
  show mergeT (putK acc p.1 p.2) r=_;have hv:valV acc p.1=none:=by
   cases e:valV acc p.1 with
   | none=>rfl
   | some v =>
    exfalso
    rw [List.map_append,List.map_cons] at h;have h2:=(List.nodup_append.mp h).2.2;have hm:p.1∈acc.map (·.1):=by
     have:(acc.any fun kv=>decide (kv.1=p.1))=true:=by rw [cTz,e];rfl
     obtain⟨q,hq,hd⟩:=List.any_eq_true.mp this;rw [← of_decide_eq_true hd];exact List.mem_map_of_mem hq
    exact h2 p.1 hm p.1 (List.mem_cons_self ..) rfl
  rw [jQz _ hv,rVz r (acc++[(p.1,p.2)]) (by rw [List.append_assoc];exact h),List.append_assoc];rfl
inductive HSky (a:Adr) (H:Hp) (x:Addr) (L:List Line):Prop
 | mk (dx la lw ln lp as) (_:H x=some (.ins a.dJ dx (fl_Sky (.ref la) (.ref lw) (.ref ln) (.ref lp)))) (_:(H la=some (.lst as)∧as.length=nA L)) (_:yT a H L lw (waves L)) (_:H ln=some (.dT (numsOf 0 (waves L)))) (_:H lp=some (.lst (bV (printed L)))):HSky a H x L
theorem CBz {K:W.Frag} {l:Addr} {xs:List V} {g:TG} {tt:TT} {te:TE} {vs:List Nat} {σ : L2.St} {R:Hp→Prop} {D:Addr} {H0:Hp} (Pv:Nat→Hp→Prop) (h0:Pv 0 (upd H0 D (.lst [])))
  (hl:∀i H,i≤xs.length→Pv i H→SqL K H l xs) (hend:∀H,Pv xs.length H→R H)
  (hstep:∀i x H T,xs[i]?=some x→Pv i H→H T=none→g (.ref T) (wipe σ vs) (upd H T (.tup [.int (i:Nat),x])) fun σ2 H2=>wipe σ2 vs=wipe σ vs∧tt σ2 H2 fun b H3 =>
   if b=true then te σ2 H3 fun y H4=>∃acc,H4 D=some (.lst acc)∧acc.length<sizeLine∧Pv (i+1) (upd H4 D (.lst (acc++[y]))) else Pv (i+1) H3) :
  ∃W:Nat→Nat→Hp→Prop,(∃m,W 0 m (upd H0 D (.lst [])))∧∀i m H,W i m H→
   ((Ite K l).stop i H∧R H)∨((Ite K l).go i H∧∃Nx:Hp→Prop,(∀H',Nx H'→∃m',m'<m∧W (i+1) m' H')∧∀x H',(Ite K l).yld i H x H'→g x (wipe σ vs) H' fun σ2 H2=>wipe σ2 vs=wipe σ vs∧tt σ2 H2 fun b H3 =>
    if b=true then te σ2 H3 fun y H4=>∃acc,H4 D=some (.lst acc)∧acc.length<sizeLine∧Nx (upd H4 D (.lst (acc++[y]))) else Nx H3):=by
 refine xCz (Q:=fun _ H=>R H) xs.length Pv h0 (fun H hp=>⟨⟨xs,hl _ H (Nat.le_refl _) hp,Nat.le_refl _⟩,hend H hp⟩) fun i H hi hp=>?_;have hq:=hl i H (Nat.le_of_lt hi) hp;refine⟨⟨xs,xs[i],hq,List.getElem?_eq_getElem hi⟩,fun x H' hy=>?_⟩;obtain⟨T,z,rfl,hT,rfl,hy⟩:=hy;exact hstep i z H T (hy xs hq) hp hT
theorem iM:aI ["self","lines","line","k","wave"] ["self","lines"] (defScope hYz):=by walk_at "s"
inductive AGz (a:Adr) (vs:List V) (H:Hp) (Q:VK) (_E:XK):Prop
 | mk (x dx l L) (_:vs=[.ref x,.ref l]) (_:H x=some (.ins a.dJ dx [])) (_:pE a H l L) (_:Sky L) (_:L.length≤16000) (_:(printed L).length≤16000) (_:∀H',Kp a.dJ H H'→HSky a H' x L→Q .non H'):AGz a vs H Q _E
theorem ok_Sky (T:Txt K mg a) (hn:Nc a a.dJ):Ok P w K mg base 7 a.zW ["self","lines"] (AGz a):=by
 have uYz := @pDz P w K mg base a T;have f7z := @cAz P w K mg base a T;refine bD T.tKz iM ?b ?l ?h;walk_at "o"
 ·obtain⟨x,dx,l,L,rfl,_⟩:=h;rfl
 ·obtain⟨x,dx,l,L,rfl,hx,hLs0,hS,hlen,hpl,k⟩:=h
  refine⟨_,(aB (bR (pv 0) (jVz (own:=[("line",2)]) rfl iM.nd (eT (pv 1)) (kW (by rfl)) (fun _ _ _ _ _=>(cZ (i:=2) iM.nd rfl (Or.inl rfl))) (fun _ _ _ _ _=>(BNz (aY gW (jL (K:=K) (pv 2) rfl) (gS T.sL) (nomark _)))) (fun _ _ _ _ _=>(pv 2))) rfl)
   (aB (bR (pv 0) (pc uYz (hr.mono (by decide)) (by rfl) T.uMz passN (aA (pv 1) aD)) rfl)
   (aB (bR (pv 0) (fX (uUz rfl (hu3_of hr)) (by rfl) T.B5z CYz (aA (jVz (own:=[("k",3),("wave",4)]) rfl iM.nd (wHz (by rfl) T.bLz (aA (aM (pv 0) rfl) aD)) (kW (by rfl)) (fun _ _ _ _ _=>(BPz (K:=K) (n:=2) rfl (cUz (cZ (i:=3) iM.nd rfl (Or.inl rfl)) (cUz (cZ (i:=4) iM.nd rfl (Or.inl rfl)) wIz)))) (fun _ _ _ _ _=>sC) (fun _ _ _ _ _=>(ANz (aA (jL (K:=K) (pv 4) rfl) (aA (pv 3) aD))))) aD)) rfl)
   (aE (bR (pv 0) (pc f7z (hr.mono (by decide)) (by rfl) T.fKz passN (aA (pv 1) aD)) rfl))))),?_⟩
  obtain⟨as,hl,hLs⟩:=id hLs0;have hlb:as.length=L.length:=Paired.length hLs;refine⟨_,rfl,l,rfl,⟨_,SqL.of hl⟩,fun D hD=>?_⟩;refine wD (K:=K) (l:=l) (xs:=as.map V.ref) (g:=gName 2) (vs:=[2]) (σ := [some (.ref x),some (.ref l),none,none,none]) (fun i H'=>∃ys:List V,H'=upd H D (.lst ys)∧ys.length=nA (L.take i)) ⟨[],rfl,rfl⟩ (fun i H' _ ⟨_,e,_⟩=>by subst e;exact SqL.of (aF hD _ _ hl)) (fun H' e=>?_) ?_
  ·obtain⟨ys,rfl,hys⟩:=e
   rw [List.length_map,hlb,List.take_length] at hys;have hD1:upd H D (.lst ys) D=some (.lst ys):=aC;have kp1:Kp a.dJ H (upd H D (.lst ys)) := .new hD;have hx1:upd H D (.lst ys) x=some (.ins a.dJ dx []):=aF hD _ _ hx;generalize upd H D (.lst ys)=H1 at *;refine⟨_,rfl,x,_,dx,_,rfl,hx1,T.vD,T.bNz,(by show 0<1000;decide),?_⟩;have kp2:Kp a.dJ H (upd H1 x (.ins a.dJ dx (putF "angles" (.ref D) []))):=kp1.trans (.upd hx1);have hx2:upd H1 x (.ins a.dJ dx (putF "angles" (.ref D) [])) x=some (.ins a.dJ dx [("angles",.ref D)]):=aC;have hD2:upd H1 x (.ins a.dJ dx (putF "angles" (.ref D) [])) D=some (.lst ys):=(Kp.upd (o := .ins a.dJ dx (putF "angles" (.ref D) [])) hx1).lst hD1;generalize upd H1 x (.ins a.dJ dx (putF "angles" (.ref D) []))=H2 at *;refine⟨_,rfl,l,L,rfl,hLs0.kc kp2 hn,hS,hlen,fun H3 lw s3 hW=>⟨_,rfl,x,_,dx,_,rfl,s3 _ _ hx2,T.vD,T.pU,(by show 1<1000;decide),?_⟩⟩;have kq4:Kp a.dJ H3 (upd H3 x (.ins a.dJ dx (putF "waves" (.ref lw) [("angles",.ref D)]))) := .upd (s3 _ _ hx2);have kp4:Kp a.dJ H (upd H3 x (.ins a.dJ dx (putF "waves" (.ref lw) [("angles",.ref D)]))):=(kp2.trans (.same s3)).trans kq4;have hx4:upd H3 x (.ins a.dJ dx (putF "waves" (.ref lw) [("angles",.ref D)])) x=some (.ins a.dJ dx [("angles",.ref D),("waves",.ref lw)]):=aC;have hD4:=kq4.lst (s3 _ _ hD2);have hW4:=hW.kc kq4 hn;generalize upd H3 x (.ins a.dJ dx (putF "waves" (.ref lw) [("angles",.ref D)]))=H4 at *;obtain⟨wa,w1,w2⟩:=id hW4;have hwl:wa.length=(waves L).length:=Paired.length w2;have hwn:(waves L).length≤128:=hS.right.waves;refine⟨_,rfl,x,_,dx,_,_,rfl,hx4,T.vD,T.pU,rfl,lw,_,rfl,SqL.of w1,fun D2 hD2'=>?_⟩;refine CBz (K:=K) (l:=lw) (xs:=wa.map V.ref) (tt:=tYes) (vs:=[3,4]) (σ := [some (.ref x),some (.ref l),none,none,none]) (fun i H'=>∃ps:List Addr,H' D2=some (.lst (ps.map V.ref))∧Same H4 H'∧Paired (fun p (kv:List Key×V)=>∃b,H' p=some (.tup [.ref b,kv.2])∧H' b=some (.tup (kv.1.map kV))) ps (numsOf 0 ((waves L).take i))) ⟨[],aC,aF hD2',.nil⟩ (fun i H' _ ⟨_,_,s,_⟩=>SqL.of (s _ _ w1)) (fun H' e=>?_) ?_
   ·obtain⟨ps,hps,s5,hpp⟩:=e
    rw [List.length_map,hwl,List.take_length] at hpp;refine⟨D2,ps,_,rfl,SqL.of hps,Paired.mapP hpp fun _ _ z=>let ⟨b,z1,z2⟩:=z;⟨b,SqT.of z1,z2⟩,fun dn hdn=>⟨_,rfl,x,_,dx,_,rfl,aF hdn _ _ (s5 _ _ hx4),T.vD,T.yG,(by show 2<1000;decide),?_⟩⟩
    have hmt:mergeT [] (numsOf 0 (waves L))=numsOf 0 (waves L):=rVz _ [] (by
     rw [List.nil_append,vT];have hnd:=iFz (b:=L) (r:=[]) hS.right.names (List.append_nil _).symm;exact List.Pairwise.map kOf (fun _ _ hne z=>hne (kBz z)) hnd)
    rw [hmt];have s6:Same H4 (upd H' dn (.dT (numsOf 0 (waves L)))):=s5.trans (aF hdn);have hdn6:upd H' dn (.dT (numsOf 0 (waves L))) dn=some (.dT (numsOf 0 (waves L))):=aC;generalize upd H' dn (.dT (numsOf 0 (waves L)))=H6 at *;have kq7:Kp a.dJ H6 (upd H6 x (.ins a.dJ dx (putF "numbers" (.ref dn) [("angles",.ref D),("waves",.ref lw)]))) := .upd (s6 _ _ hx4);have kr7:=(Kp.same (C:=a.dJ) s6).trans kq7;have kp7:=kp4.trans kr7;have hx7:upd H6 x (.ins a.dJ dx (putF "numbers" (.ref dn) [("angles",.ref D),("waves",.ref lw)])) x=some (.ins a.dJ dx [("angles",.ref D),("waves",.ref lw),("numbers",.ref dn)]):=aC;have hD7:=kr7.lst hD4;have hW7:=hW4.kc kr7 hn;have hn7:=kq7.dT hdn6;generalize upd H6 x (.ins a.dJ dx (putF "numbers" (.ref dn) [("angles",.ref D),("waves",.ref lw)]))=H7 at *;refine⟨_,rfl,l,L,rfl,hLs0.kc kp7 hn,hS.ok,hpl,fun H8 lp ⟨s8,_,hlp⟩=>⟨_,rfl,x,_,dx,_,rfl,s8 _ _ hx7,T.vD,T.yF,(by show 3<1000;decide),?_⟩⟩;have kq9:Kp a.dJ H8 (upd H8 x (.ins a.dJ dx (putF "printed" (.ref lp) [("angles",.ref D),("waves",.ref lw),("numbers",.ref dn)]))) := .upd (s8 _ _ hx7);have kr9:=(Kp.same (C:=a.dJ) s8).trans kq9;exact k _ (kp7.trans kr9) ⟨dx,D,lw,dn,lp,ys,aC,⟨kr9.lst hD7,hys⟩,hW7.kc kr9 hn,kr9.dT hn7,kq9.lst hlp⟩
   ·rintro i y H5 U hi ⟨ps,hps,s5,hpp⟩ hU
    obtain⟨wv,hwv,rfl⟩:=eI hi;obtain⟨ln,hln,hWv⟩:=Paired.at_ w2 hwv;have s6:Same H5 (upd H5 U (.tup [.int (i:Nat),.ref wv])):=aF hU;have s46:=s5.trans s6;have hps6:=s6 _ _ hps;obtain⟨dw,nw,cw,lmw,v1,v2,_⟩:=hWv.sd (.of s46);refine⟨U,_,rfl,SqT.of aC,rfl,_,_,rfl,_,_,rfl,rfl,rfl,?_⟩;generalize upd H5 U (.tup [.int (i:Nat),.ref wv])=H6 at *;simp only [tYes,if_true];refine⟨_,rfl,wv,_,dw,_,_,rfl,v1,T.jZ,T.vU,bQz _ _ _,_,rfl,(show 2≤sizeLine by decide),fun p hp=>⟨_,aF hp _ _ hps6,?_,ps++[p],?_,?_,?_⟩⟩
    ·have h1:ps.length=(numsOf 0 ((waves L).take i)).length:=Paired.length hpp
     have h2:(numsOf 0 ((waves L).take i)).length=((waves L).take i).length:=by
      have:=congrArg List.length (vT 0 ((waves L).take i))
      simpa using this
     rw [List.length_take] at h2;rw [List.length_map,sizeLine_eq];omega
    ·rw [aC,List.map_append]
     rfl
    ·exact bZ (s46.trans (aF hp)) hD2'
    ·rw [bQ hln,iEz]
     have hil:((waves L).take i).length=i:=by
      rw [List.length_take]
      have:=(List.getElem?_eq_some_iff.mp hln).1
      omega
     rw [hil];have st:∀(b:Addr) (xs:List V),H6 b=some (.tup xs)→upd (upd H6 p (.tup [.ref nw,.int (i:Nat)])) D2 (.lst (ps.map V.ref++[V.ref p])) b=some (.tup xs):=fun b xs hb=>by
      have h1:=aF (o := .tup [.ref nw,.int (i:Nat)]) hp _ _ hb;have h2:=aF (o := .tup [.ref nw,.int (i:Nat)]) hp _ _ hps6;rw [aO (nBz h1 h2 (by intro z;cases z))];exact h1
     refine Paired.snoc' (Paired.mapP hpp fun _ _ z=>let ⟨b,z1,z2⟩:=z;⟨b,st _ _ (s6 _ _ z1),st _ _ (s6 _ _ z2)⟩) ⟨nw,?_,?_⟩
     ·have h2:=aF (o := .tup [.ref nw,.int (i:Nat)]) hp _ _ hps6
      have hne:p≠D2:=fun z=>by rw [z,hps6] at hp;cases hp
      rw [aO hne,aC,Nat.zero_add]
     ·rw [vF]
      exact st _ _ v2
  ·rintro i y H' hi ⟨ys,rfl,hys⟩
   obtain⟨y,hy,rfl⟩:=eI hi;obtain⟨ln,hln,hL⟩:=Paired.at_ hLs hy;obtain⟨C,dy,fs,nn,g1,gC,gw,gn,gp,fw,fn,fp,hnn⟩:=fS.acc T hL;refine⟨rfl,?_⟩;refine⟨_,rfl,y,C,dy,fs,_,rfl,aF hD _ _ g1,gC,gw,fw,rfl,_,rfl,?_⟩;rw [sLz];have hsn:nA (L.take (i+1))=nA (L.take i)+(if ln.isAngle=true then 1 else 0):=by rw [bQ hln,j3z]
   have hle:nA (L.take i)≤16000:=Nat.le_trans (List.length_filter_le _ _) (by rw [List.length_take];omega);cases hA:ln.isAngle with
   | true =>
    rw [hA,if_pos rfl] at hsn;refine iteT ⟨_,rfl,ys,aC,by rw [sizeLine_eq];omega,ys++[.ref y],by rw [cE],?_⟩;rw [List.length_append,hsn,hys];rfl
   | false =>
    rw [hA,if_neg Bool.false_ne_true] at hsn;exact iteF ⟨ys,rfl,by rw [hsn,hys];rfl⟩
structure Dc (a:Adr):Prop where
 nr:Nr a
 ncr:Nc a a.aG
 ncs:Nc a a.dJ
 nch:Nc a a.bJ
 sr:a.dJ≠a.aG
 hr:a.bJ≠a.aG
 sh:a.dJ≠a.bJ
 cr:a.kK≠a.aG
 cs:a.kK≠a.dJ
 ch:a.kK≠a.bJ
theorem HSky.kc {C:Addr} {H H':Hp} {x:Addr} {L:List Line} (h:HSky a H x L) (s:Kp C H H') (n:Nc a C) (hs:a.dJ≠C):HSky a H' x L :=
 let ⟨dx,la,lw,ln,lp,as,h1,h2,h3,h4,h5⟩:=h;⟨dx,la,lw,ln,lp,as,s.ins h1 hs,⟨s.lst h2.1,h2.2⟩,h3.kc s n,s.dT h4,s.lst h5⟩
theorem HSky.sn {H H':Hp} {x:Addr} {L:List Line} (h:HSky a H x L) (s:kC H H'):HSky a H' x L :=
 let ⟨dx,la,lw,ln,lp,as,h1,h2,h3,h4,h5⟩:=h;⟨dx,la,lw,ln,lp,as,s _ _ h1 (by intro x u z;cases z),⟨s _ _ h2.1 (by intro x u z;cases z),h2.2⟩,h3.sn s,s _ _ h4 (by intro x u z;cases z),s _ _ h5 (by intro x u z;cases z)⟩
def fH (v:V):List (Str×V):=[("sky",v)]
inductive fT (a:Adr) (H:Hp) (h:Addr) (st:TideSkies.State):Prop
 | mk (dh v) (_:H h=some (.ins a.bJ dh (fH v))) (_:(match st with | none=>v = .non | some L=>∃x,v = .ref x∧HSky a H x L∧Sky L)):fT a H h st
theorem fT.kc {C:Addr} {H H':Hp} {h:Addr} {st:TideSkies.State} (x:fT a H h st) (s:Kp C H H') (n:Nc a C) (hs:a.dJ≠C) (hh:a.bJ≠C):fT a H' h st:=by
 obtain⟨dh,v,h1,h2⟩:=x;refine⟨dh,v,s.ins h1 hh,?_⟩;cases st with
 | none=>exact h2
 | some L=>obtain⟨x,e,h3,h4⟩:=h2;exact⟨x,e,h3.kc s n hs,h4⟩
theorem fT.sn {H H':Hp} {h:Addr} {st:TideSkies.State} (x:fT a H h st) (s:kC H H'):fT a H' h st:=by
 obtain⟨dh,v,h1,h2⟩:=x;refine⟨dh,v,s _ _ h1 (by intro x u z;cases z),?_⟩;cases st with
 | none=>exact h2
 | some L=>obtain⟨x,e,h3,h4⟩:=h2;exact⟨x,e,h3.sn s,h4⟩
theorem fT.same {H H':Hp} {h:Addr} {st:TideSkies.State} (x:fT a H h st) (s:Same H H'):fT a H' h st:=x.sn (.of s)
theorem vI {L:List Line} {n:Nat} {wl:Line} (h:(waves L)[n]?=some wl):wl∈L∧wl.isAngle=false∧∃c r,L=c++wl::r:=by
 have hm:=List.mem_of_getElem? h;obtain⟨h1,h2⟩:=List.mem_filter.mp hm;obtain⟨c,r,e⟩:=List.append_of_mem h1;exact⟨h1,(by cases wl <;> first | rfl | cases h2),c,r,e⟩
theorem gJz:aI ["minute"] ["minute"] (defScope xO):=by walk_at "s"
inductive uH (a:Adr) (vs:List V) (H:Hp) (Q:VK) (E:XK):Prop
 | mk (t:Int) (_:vs=[.int t]) (_:(if TideSkies.isMinute t=true then Q .non H else E (.ref a.dB) none H)):uH a vs H Q E
theorem uX (T:Txt K mg a):Ok P w K mg base 1 a.qL ["minute"] (uH a):=by
 refine bD T.i1z gJz ?b ?l ?h;walk_at "o"
 ·obtain⟨t,rfl,_⟩:=h;rfl
 ·obtain⟨t,rfl,k⟩:=h
  refine⟨_,(aE (dE (PW.pt (BMz (aY mSz (pv 0) (gI T.gYz) (nomark _)) (v9z (aY gQz (pv 0) (gI T.kAz) (nomark _))))) (aE (wCz T.mK T.yJ T.sP rfl rfl raiseX)) bA)),?_⟩;refine⟨_,rfl,_,_,rfl,rfl,_,rfl,?_⟩;unfold TideSkies.isMinute at k
  by_cases h1:t < -2147483648
  ·rw [decide_eq_true h1]
   rw [decide_eq_false (show ¬ (-(2 ^ 31):Int)≤t by omega),Bool.false_and,if_neg Bool.false_ne_true] at k;exact iteT (iteT k)
  ·rw [decide_eq_false h1]
   rw [decide_eq_true (show (-(2 ^ 31):Int)≤t by omega),Bool.true_and] at k;refine iteF ⟨_,rfl,_,_,rfl,rfl,_,rfl,?_⟩
   by_cases h2:2147483647<t
   ·rw [decide_eq_true h2]
    rw [decide_eq_false (show ¬ t<2 ^ 31 by omega),if_neg Bool.false_ne_true] at k;exact iteT k
   ·rw [decide_eq_false h2]
    rw [decide_eq_true (show t<2 ^ 31 by omega),if_pos rfl] at k;exact iteF k
theorem xJ:aI ["self"] ["self"] (defScope oR):=by walk_at "s"
inductive dVz (a:Adr) (vs:List V) (H:Hp) (Q:VK) (E:XK):Prop
 | mk (h st) (_:vs=[.ref h]) (_:fT a H h st) (_:(match st with | none=>E (.ref a.mC) none H | some L=>∀x,HSky a H x L→Sky L→Q (.ref x) H)):dVz a vs H Q E
theorem vR (T:Txt K mg a):Ok P w K mg base 1 a.cA ["self"] (dVz a):=by
 refine bD T.zD xJ ?b ?l ?h;walk_at "o"
 ·obtain⟨h,st,rfl,_⟩:=h;rfl
 ·obtain⟨h,st,rfl,⟨dh,v,h1,h2⟩,k⟩:=h
  refine⟨_,(aB (dE (aY op_isN (aM (pv 0) rfl) AOz (nomark _)) (aE (wCz T.oHz T.zNz T.xSz rfl rfl raiseX)) bA)
   (aE (aR (aM (pv 0) rfl)))),?_⟩
  refine⟨_,rfl,h,_,dh,_,_,rfl,h1,T.cB,T.mZ,rfl,rfl,_,rfl,?_⟩;cases st with
  | none =>
   have h2:v = .non:=h2;subst h2;exact iteT k
  | some L =>
   obtain⟨x,rfl,h3,h4⟩:=h2;exact iteF ⟨_,rfl,h,_,dh,_,_,rfl,h1,T.cB,T.mZ,rfl,k x h3 h4⟩
theorem uM:aI ["self","number","waves"] ["self","number"] (defScope xV):=by walk_at "s"
def kQz (a:Adr) (H:Hp) (E:XK) (st:TideSkies.State) (n:Nat) (k:List Line→Line→Prop):Prop:=match st with
 | none=>E (.ref a.mC) none H
 | some L=>match (waves L)[n]? with
  | none=>E (.ref a.bP) none H
  | some wl=>Sky L→k L wl
inductive vSz (a:Adr) (vs:List V) (H:Hp) (Q:VK) (E:XK):Prop
 | mk (h st n) (_:vs=[.ref h,.int ((n:Nat):Int)]) (_:fT a H h st) (_:kQz a H E st n fun L wl=>∀x,kX a H L x wl→Q (.ref x) H):vSz a vs H Q E
theorem ePz (T:Txt K mg a):Ok P w K mg base 2 a.cW ["self","number"] (vSz a):=by
 have dG := @vR P w K mg base a T;refine bD T.i8z uM ?b ?l ?h;walk_at "o"
 ·obtain⟨h,st,n,rfl,_⟩:=h;rfl
 ·obtain⟨h,st,n,rfl,hH,k⟩:=h
  refine⟨_,(aB (aP (i:=2) uM.nd rfl (Or.inl rfl) (aM (pm0 (pv 0) T.cB T.cA dG (hr.mono (by decide)) passX) rfl))
   (aB (dE (aY BXz (pv 1) (bH bT (by rfl) T.mX nI (aA (pv 2) aD)) (nomark _)) (aE (wCz T.tG T.fBz T.aDz rfl rfl raiseX)) bA)
   (aE (aR (pN fC (pv 2) (pv 1) (fun _ _=>rfl)))))),?_⟩
  obtain⟨dh,v,h1,_⟩:=id hH;refine⟨_,rfl,h,dh,_,rfl,h1,rfl,h,st,rfl,hH,?_⟩;cases st with
  | none=>exact k
  | some L =>
   refine fun x hx hS=>?_;obtain⟨dx,la,lw,ln,lp,as,g1,g2,⟨ws,g3,g4⟩,g5,g6⟩:=id hx;refine⟨x,_,dx,_,_,rfl,g1,T.vD,T.pU,rfl,?_⟩;dsimp only [gName];have hwl:ws.length=(waves L).length:=Paired.length g4;refine⟨_,rfl,_,rfl,lw,_,rfl,.inl (SqL.of g3),_,_,rfl,rfl,_,rfl,?_⟩;rw [List.length_map,hwl]
   have k':(match (waves L)[n]? with
    | none=>E (.ref a.bP) none H
    | some wl=>Sky L→∀x,kX a H L x wl→Q (.ref x) H):=k
   cases e:(waves L)[n]? with
   | none =>
    rw [e] at k'
    have:(waves L).length≤n:=List.getElem?_eq_none_iff.mp e
    rw [decide_eq_true (by omega)];exact iteT k'
   | some wl =>
    rw [e] at k';have hlt:=(List.getElem?_eq_some_iff.mp e).1;rw [decide_eq_false (by omega)];have hlt2:n<ws.length:=by omega
    obtain⟨wl',e1,e2⟩:=Paired.at_ g4 (List.getElem?_eq_getElem hlt2);rw [e] at e1;cases e1;refine iteF ⟨_,rfl,_,rfl,lw,_,_,_,rfl,rfl,SqL.of g3,fF (v:=V.ref ws[n]) ?_,k' hS _ e2⟩;rw [List.getElem?_map,List.getElem?_eq_getElem hlt2];rfl
theorem jE:aI ["self","name","numbers"] ["self","name"] (defScope kH):=by walk_at "s"
inductive uC (a:Adr) (vs:List V) (H:Hp) (Q:VK) (E:XK):Prop
 | mk (h st l n) (_:vs=[.ref h,.ref l]) (_:fT a H h st) (_:H l=some (.lst (bV n))) (_:(match st with | none=>E (.ref a.mC) none H | some L=>match (waves L).findIdx? (fun w=>w.name == n) with | none=>∀H',Same H H'→E (.ref a.bP) none H' | some i=>∀H',Same H H'→Q (.int ((i:Nat):Int)) H')):uC a vs H Q E
theorem gRz (T:Txt K mg a):Ok P w K mg base 2 a.dD ["self","name"] (uC a):=by
 have dG := @vR P w K mg base a T;refine bD T.tW jE ?b ?l ?h;walk_at "o"
 ·obtain⟨h,st,l,n,rfl,_⟩:=h;rfl
 ·obtain⟨h,st,l,n,rfl,hH,hl,k⟩:=h
  refine⟨_,(aB (aP (i:=2) jE.nd rfl (Or.inl rfl) (aM (pm0 (pv 0) T.cB T.cA dG (hr.mono (by decide)) passX) rfl))
   (aB (dE (AJz (wJz (fFz hr) (fX qP (by rfl) T.j1z kMz (aA (pv 1) aD)) (pv 2))) (aE (wCz T.tG T.fBz T.aDz rfl rfl raiseX)) bA)
   (aE (aR (jXz (fFz hr) (pv 2) (fX qP (by rfl) T.j1z kMz (aA (pv 1) aD)) (fun _ _=>rfl)))))),?_⟩
  obtain⟨dh,v,h1,_⟩:=id hH;refine⟨_,rfl,h,dh,_,rfl,h1,rfl,h,st,rfl,hH,?_⟩;cases st with
  | none=>exact k
  | some L =>
   refine fun x hx hS=>?_;obtain⟨dx,la,lw,ln,lp,as,g1,g2,g3,g5,g6⟩:=id hx;refine⟨x,_,dx,_,_,rfl,g1,T.vD,T.yG,rfl,?_⟩;dsimp only [gName];refine⟨_,rfl,l,_,rfl,.inl ⟨SqL.of hl,fun u hu=>?_⟩⟩;have s1:Same H (upd H u (.tup (bV n))):=aF hu;have hu1:upd H u (.tup (bV n)) u=some (.tup (bV n)):=aC;generalize upd H u (.tup (bV n))=H1 at *;have hv:=iDz 0 (waves L) n;refine⟨_,rfl,ln,_,rfl,DGet.t (k:=kOf n) (s1 _ _ g5) (by rw [vF];exact hu1),_,rfl,?_⟩;rw [hv]
   have k':(match (waves L).findIdx? (fun w=>w.name == n) with
    | none=>∀H',Same H H'→E (.ref a.bP) none H'
    | some i=>∀H',Same H H'→Q (.int ((i:Nat):Int)) H'):=k
   cases e:(waves L).findIdx? (fun w=>w.name == n) with
   | none =>
    rw [e] at k';exact iteT (k' H1 s1)
   | some i =>
    rw [e] at k' hv;refine iteF ⟨_,rfl,_,rfl,l,_,rfl,.inl ⟨SqL.of (s1 _ _ hl),fun u2 hu2=>?_⟩⟩;have s2:Same H1 (upd H1 u2 (.tup (bV n))):=aF hu2;refine⟨ln,_,rfl,?_,k' _ (s1.trans s2)⟩
    have:=DGet.t (k:=kOf n) (s2 _ _ (s1 _ _ g5)) (b:=u2) (by rw [vF];exact aC)
    rw [hv] at this;have this':DGet (upd H1 u2 (.tup (bV n))) ln (.ref u2) (some (V.int ((0+i:Nat):Int))):=this;rw [Nat.zero_add] at this';exact this'
theorem d2z:aI ["self","number"] ["self","number"] (defScope uT):=by walk_at "s"
def speedV (L:List Line) (wl:Line):List V:=[.int (speed L wl/(Nat.gcd (speed L wl).natAbs UNIT:Nat)),.int ((UNIT/Nat.gcd (speed L wl).natAbs UNIT:Nat):Int)]
inductive rKz (a:Adr) (vs:List V) (H:Hp) (Q:VK) (E:XK):Prop
 | mk (h st n) (_:vs=[.ref h,.int ((n:Nat):Int)]) (_:fT a H h st) (_:kQz a H E st n fun L wl=>∀D,H D=none→Q (.ref D) (upd H D (.lst (speedV L wl)))):rKz a vs H Q E
theorem zCz (T:Txt K mg a):Ok P w K mg base 3 a.fY ["self","number"] (rKz a):=by
 have cY := @ePz P w K mg base a T;have u0z := @pHz P w K mg base a T;refine bD T.gHz d2z ?b ?l ?h;walk_at "o"
 ·obtain⟨h,st,n,rfl,_⟩:=h;rfl
 ·obtain⟨h,st,n,rfl,hH,k⟩:=h
  refine⟨_,(aE (aR (pc u0z (hr.mono (by decide)) (by rfl) T.uOz passX (aA (pm (pv 0) T.cB T.cW cY (hr.mono (by decide)) passX (aA (pv 1) aD)) aD)))),?_⟩;obtain⟨dh,v,h1,_⟩:=id hH;refine⟨_,rfl,h,dh,_,rfl,h1,rfl,_,rfl,h,st,n,rfl,hH,?_⟩;cases st with
  | none=>exact k
  | some L =>
   show (match (waves L)[n]? with | none=>_ | some wl=>_)
   have k':(match (waves L)[n]? with
    | none=>E (.ref a.bP) none H
    | some wl=>Sky L→∀D,H D=none→Q (.ref D) (upd H D (.lst (speedV L wl)))):=k
   cases e:(waves L)[n]? with
   | none=>rw [e] at k';exact k'
   | some wl =>
    rw [e] at k';refine fun hS x hx=>?_;obtain⟨w1,w2,_⟩:=vI e;refine⟨x,L,wl,rfl,hx,(oU hS.ok (hS.ok wl w1)).2,fun D hD=>?_⟩;rw [fGz w2];exact k' hS D hD
theorem nB {t:Int} (h:TideSkies.isMinute t=true):t.natAbs≤2 ^ 35:=by
 unfold TideSkies.isMinute at h;rw [Bool.and_eq_true,decide_eq_true_eq,decide_eq_true_eq] at h;omega
theorem kQz.by {H:Hp} {E:XK} {st:TideSkies.State} {n:Nat} {k k':List Line→Line→Prop} (h:kQz a H E st n k) (f:∀L wl,(waves L)[n]?=some wl→Sky L→k L wl→k' L wl):kQz a H E st n k':=by
 cases st with
 | none=>exact h
 | some L =>
  have h':(match (waves L)[n]? with
   | none=>E (.ref a.bP) none H
   | some wl=>Sky L→k L wl):=h
  show (match (waves L)[n]? with
   | none=>E (.ref a.bP) none H
   | some wl=>Sky L→k' L wl)
  cases e:(waves L)[n]? with
  | none=>rw [e] at h';exact h'
  | some wl=>rw [e] at h';exact fun hS=>f L wl e hS (h' hS)
theorem fO:aI ["self","number","minute","steady_minute","wave"] ["self","number","minute","steady_minute"] (defScope fW):=by walk_at "s"
inductive lB (a:Adr) (vs:List V) (H:Hp) (Q:VK) (E:XK):Prop
 | mk (h st n t b) (_:vs=[.ref h,.int ((n:Nat):Int),.int t,.int b]) (_:fT a H h st) (_:kQz a H E st n fun L wl=>if TideSkies.isMinute t=false∨TideSkies.isMinute b=false then E (.ref a.dB) none H else ∀H' D,Same H H'→H' D=some (.lst [.int ((stands L wl t b:Nat):Int),.int (factor L wl b)])→Q (.ref D) H'):lB a vs H Q E
theorem vQ (T:Txt K mg a):Ok P w K mg base 9 a.bY ["self","number","minute","steady_minute"] (lB a):=by
 have cY := @ePz P w K mg base a T;have fN := @uX P w K mg base a T;have wW := @bIz P w K mg base a T;have qRz := @m1z P w K mg base a T;refine bD T.nN fO ?b ?l ?h;walk_at "o"
 ·obtain⟨h,st,n,t,b,rfl,_⟩:=h;rfl
 ·obtain⟨h,st,n,t,b,rfl,hH,k⟩:=h
  refine⟨_,(aB (aP (i:=4) fO.nd rfl (Or.inl rfl) (pm (pv 0) T.cB T.cW cY (hr.mono (by decide)) passX (aA (pv 1) aD)))
   (aB (aU (pc fN (hr.mono (by decide)) (by rfl) T.hZ passX (aA (pv 2) aD)))
   (aB (aU (pc fN (hr.mono (by decide)) (by rfl) T.hZ passX (aA (pv 3) aD)))
   (aE (aR (aZ eOz (pc wW (hr.mono (by decide)) (by rfl) T.fLz passX (aA (pv 4) (aA (pv 2) (aA aT (aA (pv 3) aD))))) (dM (aA (pc qRz (hr.mono (by decide)) (by rfl) T.p4z passX (aA (pv 4) (aA (pv 3) aD))) aD)))))))),?_⟩
  obtain⟨dh,v,h1,_⟩:=id hH;refine⟨_,rfl,h,dh,_,rfl,h1,rfl,_,rfl,h,st,n,rfl,hH,k.by fun L wl e hS k=>?_⟩;refine fun x hx=>?_;dsimp only [gName];obtain⟨w1,w2,c,r,w3⟩:=vI e;refine⟨_,rfl,t,rfl,?_⟩
  by_cases ht:TideSkies.isMinute t=true
  ·rw [if_pos ht]
   refine⟨_,rfl,b,rfl,?_⟩
   by_cases hb:TideSkies.isMinute b=true
   ·rw [if_pos hb]
    rw [if_neg (by rw [ht,hb];intro z;rcases z with z | z <;> cases z)] at k;have hbt:=nB ht;have hbb:=nB hb;refine⟨_,rfl,_,rfl,_,rfl,x,L,wl,t,1,b,rfl,hS,w1,w2,hx,hbt,hbb,by decide,fun H1 D s1 hD hD1=>?_⟩;refine⟨_,rfl,_,rfl,x,L,c,r,wl,b,rfl,hS,w3,w2,hx.sd (.of s1),Nat.le_trans hbb (by decide),fun H2 s2=>?_⟩;refine⟨(show 1≤sizeLine by decide),fun D2 hD2=>⟨D,D2,_,_,rfl,rfl,aF hD2 _ _ (s2 _ _ hD1),aC,?_,fun D3 hD3=>?_⟩⟩
    ·rw [pH];exact (show 2≤sizeLine by decide)
    ·refine k _ D3 ((s1.trans s2).trans ((aF hD2).trans (aF hD3))) ?_
     rw [aC];show some (HO.lst [V.int ((stands L wl (t+(0:Nat)) b:Nat):Int),V.int (factor L wl b)])=_;rw [show t+((0:Nat):Int)=t by omega]
   ·rw [if_neg hb]
    rw [if_pos (.inr (by simpa using hb))] at k;exact k
  ·rw [if_neg ht]
   rw [if_pos (.inl (by simpa using ht))] at k;exact k
theorem qW:aI ["self","number","minute","steady_minute","many","wave"] ["self","number","minute","steady_minute","many"] (defScope sB):=by walk_at "s"
inductive lMz (a:Adr) (vs:List V) (H:Hp) (Q:VK) (E:XK):Prop
 | mk (h st n t b m) (_:vs=[.ref h,.int ((n:Nat):Int),.int t,.int b,.int ((m:Nat):Int)]) (_:fT a H h st) (_:kQz a H E st n fun L wl=>if TideSkies.isMinute t=false∨TideSkies.isMinute b=false∨TideSkies.ROW<m∨(0<m∧TideSkies.isMinute (t+m-1)=false) then E (.ref a.dB) none H else ∀H' D,Same H H'→H' D=some (.lst (standsV L wl t b m))→Q (.ref D) H'):lMz a vs H Q E
theorem wLz (T:Txt K mg a):Ok P w K mg base 9 a.fB ["self","number","minute","steady_minute","many"] (lMz a):=by
 have cY := @ePz P w K mg base a T;have fN := @uX P w K mg base a T;have wW := @bIz P w K mg base a T;refine bD T.dJz qW ?b ?l ?h;walk_at "o"
 ·obtain⟨h,st,n,t,b,m,rfl,_⟩:=h;rfl
 ·obtain⟨h,st,n,t,b,m,rfl,hH,k⟩:=h
  refine⟨_,(aB (aP (i:=5) qW.nd rfl (Or.inl rfl) (pm (pv 0) T.cB T.cW cY (hr.mono (by decide)) passX (aA (pv 1) aD)))
   (aB (aU (pc fN (hr.mono (by decide)) (by rfl) T.hZ passX (aA (pv 2) aD)))
   (aB (aU (pc fN (hr.mono (by decide)) (by rfl) T.hZ passX (aA (pv 3) aD)))
   (aB (dE (aY gQz (pv 4) (gI T.j6z) (nomark _)) (aE (wCz T.mK T.yJ T.sP rfl rfl raiseX)) bA)
   (aB (dE (aY gQz (pv 4) aT (nomark _)) (aE (aU (pc fN (hr.mono (by decide)) (by rfl) T.hZ passX (aA (aZ oV (aZ gN (pv 2) (pv 4)) aT) aD)))) bA)
   (aE (aR (pc wW (hr.mono (by decide)) (by rfl) T.fLz passX (aA (pv 5) (aA (pv 2) (aA (pv 4) (aA (pv 3) aD)))))))))))),?_⟩
  obtain⟨dh,v,h1,_⟩:=id hH;refine⟨_,rfl,h,dh,_,rfl,h1,rfl,_,rfl,h,st,n,rfl,hH,k.by fun L wl e hS k=>?_⟩;refine fun x hx=>?_;dsimp only [gName];obtain⟨w1,w2,c,r,w3⟩:=vI e;have fl:∀{b:Bool},¬ b=true→b=false:=fun h=>by simpa using h
  refine⟨_,rfl,t,rfl,?_⟩
  by_cases ht0:TideSkies.isMinute t=false
  ·rw [if_neg (by rw [ht0];exact Bool.false_ne_true)]
   rw [if_pos (.inl ht0)] at k;exact k
  have ht:TideSkies.isMinute t=true:=by simpa using ht0
  rw [if_pos ht];refine⟨_,rfl,b,rfl,?_⟩
  by_cases hb0:TideSkies.isMinute b=false
  ·rw [if_neg (by rw [hb0];exact Bool.false_ne_true)]
   rw [if_pos (.inr (.inl hb0))] at k;exact k
  have hb:TideSkies.isMinute b=true:=by simpa using hb0
  rw [if_pos hb];refine⟨_,rfl,_,_,rfl,rfl,_,rfl,?_⟩
  by_cases hm:256<m
  ·rw [decide_eq_true (by omega)]
   rw [if_pos (.inr (.inr (.inl hm)))] at k;exact iteT k
  rw [decide_eq_false (by omega)];refine iteF ?_;dsimp only [tNext];refine lE (fun σ' H1=>¬ (0<m∧TideSkies.isMinute (t+m-1)=false)∧H1=H∧σ'=[some (.ref h),some (.int ((n:Nat):Int)),some (.int t),some (.int b),some (.int ((m:Nat):Int)),some (.ref x)]) (fun N hN=>?_) ?_
  ·refine⟨_,rfl,_,_,rfl,rfl,_,rfl,?_⟩
   by_cases h0:0<m
   ·rw [decide_eq_true (by omega)]
    refine iteT ⟨_,rfl,_,rfl,_,_,rfl,rfl,_,_,rfl,rfl,t+m-1,rfl,?_⟩
    by_cases hl:TideSkies.isMinute (t+m-1)=true
    ·rw [if_pos hl]
     exact hN _ _ ⟨fun z=>(by rw [hl] at z;cases z.2),rfl,rfl⟩
    ·rw [if_neg hl]
     rw [if_pos (.inr (.inr (.inr ⟨h0,fl hl⟩)))] at k;exact k
   ·rw [decide_eq_false (by omega)]
    exact iteF (hN _ _ ⟨fun z=>h0 z.1,rfl,rfl⟩)
  ·rintro σ' H1 ⟨hlast,rfl,rfl⟩
   rw [if_neg (by
    rintro (z | z | z | z)
    ·rw [ht] at z;cases z
    ·rw [hb] at z;cases z
    ·exact hm z
    ·exact hlast z)] at k
   exact⟨_,rfl,_,rfl,_,rfl,_,rfl,x,L,wl,t,m,b,rfl,hS,w1,w2,hx,nB ht,nB hb,by omega,fun H1 D s1 hD hD1=>k H1 D s1 hD1⟩
theorem lI:aI ["self","number","other","minutes"] ["self","number","other","minutes"] (defScope fP):=by walk_at "s"
inductive rNz (a:Adr) (vs:List V) (H:Hp) (Q:VK) (E:XK):Prop
 | mk (h st i j m) (_:vs=[.ref h,.int ((i:Nat):Int),.int ((j:Nat):Int),.int ((m:Nat):Int)]) (_:fT a H h st) (_:m≤2 ^ 72) (_:kQz a H E st i fun L wl=>match (waves L)[j]? with | none=>E (.ref a.bP) none H | some wm=>Q (.bl (decide (UNIT≤(speed L wl-speed L wm).natAbs*m))) H):rNz a vs H Q E
theorem zEz (T:Txt K mg a):Ok P w K mg base 3 a.bS ["self","number","other","minutes"] (rNz a):=by
 have cY := @ePz P w K mg base a T;have qSz := @m4z P w K mg base a T;refine bD T.mI lI ?b ?l ?h;walk_at "o"
 ·obtain⟨h,st,i,j,m,rfl,_⟩:=h;rfl
 ·obtain⟨h,st,i,j,m,rfl,hH,hm,k⟩:=h
  refine⟨_,(aE (aR (pc qSz (hr.mono (by decide)) (by rfl) T.p5z passX (aA (pm (pv 0) T.cB T.cW cY (hr.mono (by decide)) passX (aA (pv 1) aD)) (aA (pm (pv 0) T.cB T.cW cY (hr.mono (by decide)) passX (aA (pv 2) aD)) (aA (pv 3) aD)))))),?_⟩;obtain⟨dh,v,h1,_⟩:=id hH;refine⟨_,rfl,h,dh,_,rfl,h1,rfl,_,rfl,h,st,i,rfl,hH,?_⟩;cases st with
  | none=>exact k
  | some L =>
  have k1:(match (waves L)[i]? with
   | none=>E (.ref a.bP) none H
   | some wl=>Sky L→(match (waves L)[j]? with
    | none=>E (.ref a.bP) none H
    | some wm=>Q (.bl (decide (UNIT≤(speed L wl-speed L wm).natAbs*m))) H)):=k
  show (match (waves L)[i]? with | none=>_ | some wl=>_);cases e:(waves L)[i]? with
  | none=>rw [e] at k1;exact k1
  | some wl =>
   rw [e] at k1;refine fun hS x hx=>?_;have k2:=k1 hS;refine⟨_,rfl,h,dh,_,rfl,h1,rfl,_,rfl,h,some L,j,rfl,hH,?_⟩;show (match (waves L)[j]? with | none=>_ | some wl=>_);cases e2:(waves L)[j]? with
   | none=>rw [e2] at k2;exact k2
   | some wm =>
    rw [e2] at k2;refine fun _ y hy=>?_;obtain⟨w1,w2,_⟩:=vI e;obtain⟨v1,v2,_⟩:=vI e2;refine⟨_,rfl,x,y,L,wl,wm,m,rfl,hx,hy,(oU hS.ok (hS.ok wl w1)).2,(oU hS.ok (hS.ok wm v1)).2,hm,?_⟩;rw [fGz w2,fGz v2];exact k2
theorem fEz {txt:Bytes}:Tide.judge txt=(match grammar txt with
 | .error p => .error (1,p)
 | .ok l=>match scan [] l with
  | some f => .error f
  | none => .ok l):=(zPz txt).trans (by cases grammar txt <;> rfl)
theorem mR:aI ["self","text","lines"] ["self","text"] (defScope oQ):=by walk_at "s"
inductive dQz (a:Adr) (vs:List V) (H:Hp) (Q:VK) (E:XK):Prop
 | mk (h st l txt) (_:vs=[.ref h,.ref l]) (_:fT a H h st) (_:H l=some (.lst (bV txt))) (_:txt.length≤16000) (_:(match Tide.judge txt with | .error (k,p)=>∀H' d,Kp a.aG H H'→hJz H' d k p→E (.ref a.bG) (some d) H' | .ok L=>∀H1 H2 H',Kp a.aG H H1→Kp a.dJ H1 H2→Kp a.bJ H2 H'→fT a H' h (some L)→Q .non H')):dQz a vs H Q E
theorem pFz (T:Txt K mg a) (hd:Dc a):Ok P w K mg base 14 a.eB ["self","text"] (dQz a):=by
 have oDz := @jZz P w K mg base a T hd.nr;have DEz := @zDz P w K mg base a T;have G_Sky := @ok_Sky P w K mg base a T hd.ncs;refine bD T.zC mR ?b ?l ?h;walk_at "o"
 ·obtain⟨h,st,l,txt,rfl,_⟩:=h;rfl
 ·obtain⟨h,st,l,txt,rfl,hH,hl,hlen,k⟩:=h
  refine⟨_,(aB (aP (i:=2) mR.nd rfl (Or.inl rfl) (pc oDz (hr.mono (by decide)) (by rfl) T.nPz passX (aA (pv 1) aD)))
   (aB (aU (pc DEz (hr.mono (by decide)) (by rfl) T.CMz passX (aA (pv 2) aD)))
   (aE (bR (pv 0) (pn T.mk_Sky G_Sky (hr.mono (by decide)) (by rfl) T.g_Sky passN (aA (pv 2) aD)) rfl)))),?_⟩
  rw [fEz] at k;refine⟨_,rfl,l,txt,rfl,hl,hlen,?_⟩;cases hg:grammar txt with
  | error p =>
   rw [hg] at k;exact fun H' d kp f=>k H' d kp f
  | ok L =>
   rw [hg] at k;refine fun H1 lL kp1 hL1=>?_;dsimp only [gName];have hta:=zZ hg;have hnum:L.length≤16000:=Nat.le_trans hta.num (by omega);have hprn:(printed L).length≤16000:=Nat.le_trans hta.txt (by omega);refine⟨_,rfl,lL,L,rfl,hL1,hta.ok,hnum,?_⟩;dsimp only at k;cases hs:scan [] L with
   | some f =>
    rw [hs] at k;obtain⟨f1,f2⟩:=f;exact fun H' d s ft=>k H' d (kp1.trans (.same s)) ft
   | none =>
    rw [hs] at k;refine fun H2 s2=>?_;have hSky:Sky L:=⟨zG L [] cJz.nil hs,hta.ok⟩;have hL2:=hL1.same s2;refine⟨_,rfl,fun x dx nx ndx hne=>?_⟩;have s3:Same H2 (upd (upd H2 dx (.own x)) x (.ins a.dJ dx [])):=dS nx ndx;refine⟨x,dx,lL,L,rfl,aC,hL2.same s3,hSky,hnum,hprn,fun H4 kp4 hSk=>⟨rfl,?_⟩⟩;have kp3:Kp a.aG H (upd (upd H2 dx (.own x)) x (.ins a.dJ dx [])):=(kp1.trans (.same s2)).trans (.same s3);obtain⟨dh,v,h1,_⟩:=id hH;have h4:=kp4.ins (kp3.ins h1 hd.hr) (Ne.symm hd.sh);refine⟨_,rfl,h,_,dh,_,rfl,h4,T.cB,T.mZ,(by show 1<1000;decide),?_⟩;have kp5:Kp a.bJ H4 (upd H4 h (.ins a.bJ dh (fH (.ref x)))) := .upd h4;exact k _ _ _ kp3 kp4 kp5 ⟨dh,.ref x,aC,x,rfl,hSk.kc kp5 hd.nch hd.sh,hSky⟩
def K3 (a:Adr) (H H':Hp):Prop := ∀b o,H b=some o→(∀C dx fs,o = .ins C dx fs→C≠a.aG∧C≠a.dJ∧C≠a.bJ)→H' b=some o
theorem K3.same {H H':Hp} (s:Same H H'):K3 a H H':=fun b o h _=>s b o h
theorem K3.trans {H H1 H2:Hp} (x:K3 a H H1) (y:K3 a H1 H2):K3 a H H2:=fun b o h n=>y b o (x b o h n) n
theorem K3.kp {C:Addr} {H H':Hp} (s:Kp C H H') (h:C=a.aG∨C=a.dJ∨C=a.bJ):K3 a H H':=fun b o hb n=>s.keep b o hb fun dx fs z=>by
 obtain⟨n1,n2,n3⟩:=n C dx fs z;rcases h with h | h | h
 ·exact n1 h
 ·exact n2 h
 ·exact n3 h
structure Out (a:Adr) (H:Hp) (h:Addr) (st:TideSkies.State) (nums:List Int) (Q:VK) (E:XK):Prop where
 told:∀H' D,K3 a H H'→H' D=some (.lst (nums.map V.int))→fT a H' h st→Q (.ref D) H'
 range:nums=[-1]→∀H',K3 a H H'→fT a H' h st→E (.ref a.dB) none H'
 nosky:nums=[-3]→∀H',K3 a H H'→fT a H' h st→E (.ref a.mC) none H'
 there:nums=[-4]→∀H',K3 a H H'→fT a H' h st→E (.ref a.bP) none H'
 fault:∀k p,nums=[-6,k,p]→∀H' d,K3 a H H'→hJz H' d k p→fT a H' h st→E (.ref a.bG) (some d) H'
theorem Out.wave {H H1:Hp} {h:Addr} {st:TideSkies.State} {i:Nat} {f:List Line→Line→Answer} {Q:VK} {E:XK} {k:List Line→Line→Prop} (o:Out a H h st (TideSkies.ofWave st i f).2.nums Q E) (s:Same H H1) (hH:fT a H h st)
  (hk:∀L wl,st=some L→(waves L)[i]?=some wl→Sky L→Out a H h st (f L wl).nums Q E→k L wl):kQz a H1 E st i k:=by
 cases st with
 | none=>exact o.nosky rfl H1 (.same s) (hH.same s)
 | some L =>
  have o':Out a H h (some L) (match (waves L)[i]? with
   | none=>says (-4)
   | some wl=>f L wl).nums Q E:=o
  show (match (waves L)[i]? with
   | none=>E (.ref a.bP) none H1
   | some wl=>Sky L→k L wl)
  cases e:(waves L)[i]? with
  | none=>rw [e] at o';exact o'.there rfl H1 (.same s) (hH.same s)
  | some wl=>rw [e] at o';exact fun hS=>hk L wl rfl e hS o'
theorem tTz:aI ["row"] ["row"] (defScope mJz):=by walk_at "s"
inductive hPz (vs:List V) (H:Hp) (Q:VK) (_E:XK):Prop
 | mk (l xs) (_:vs=[.ref l]) (_:(H l=some (.lst xs)∨H l=some (.tup xs))) (_:xs.length≤20000) (_:∀H' D,Same H H'→H' D=some (.lst (.int 0 :: .int ((xs.length:Nat):Int)::xs))→Q (.ref D) H'):hPz vs H Q _E
theorem iCz (T:Txt K mg a):Ok P w K mg base 1 a.fUz ["row"] hPz:=by
 refine bD T.vGz tTz ?b ?l ?h;walk_at "o"
 ·obtain⟨l,xs,rfl,_⟩:=h;rfl
 ·obtain⟨l,xs,rfl,hl,hn,k⟩:=h
  refine⟨_,(aE (aR (aZ eOz (dM (aA aT (aA (bH bT (by rfl) T.mX nI (aA (pv 0) aD)) aD))) (fX bTz (by rfl) T.pLz yMz (aA (pv 0) aD))))),?_⟩;have sq:∀H',Same H H'→SqL K H' l xs∨SqT K H' l xs:=fun H' s=>hl.elim (fun z => .inl (SqL.of (s _ _ z))) fun z => .inr (SqT.of (s _ _ z));refine⟨_,rfl,l,xs,rfl,sq H (Same.refl _),(show 2≤sizeLine by decide),fun D1 hD1=>?_⟩;have s1:Same H (upd H D1 (.lst [.int 0,.int ((xs.length:Nat):Int)])):=aF hD1;refine⟨_,rfl,l,xs,rfl,sq _ s1,fun D2 hD2=>⟨D1,D2,_,_,rfl,rfl,aF hD2 _ _ aC,aC,?_,fun D3 hD3=>?_⟩⟩
  ·show 2+xs.length≤sizeLine
   rw [sizeLine_eq];omega
  ·exact k _ D3 (s1.trans ((aF hD2).trans (aF hD3))) aC
theorem tOz (L:List Line) (l:Line) (t b:Int) (n:Nat):standsV L l t b n=(asInts ((List.range n).map fun k:Nat=>stands L l (t+k) b)).map V.int:=by
 unfold standsV asInts;rw [List.map_map,List.map_map];rfl
def cN:TideSkies.Call→Int
 | .sky _=>0
 | .print=>1
 | .size=>2
 | .name _=>3
 | .find _=>4
 | .speed _=>5
 | .place _ _ _=>6
 | .row _ _ _ _=>7
 | .apart _ _ _=>8
def cG:TideSkies.Call→List Int
 | .name i=>[(i:Int)]
 | .speed i=>[(i:Int)]
 | .place i t b=>[(i:Int),t,b]
 | .row i t b m=>[(i:Int),t,b,(m:Int)]
 | .apart i j m=>[(i:Int),(j:Int),(m:Int)]
 | _=>[]
def cR:TideSkies.Call→Bytes
 | .sky t=>t
 | .find n=>n
 | _=>[]
structure KOk (k:TideSkies.Call):Prop where
 row:(cR k).length≤16000
 num:∀z∈cG k,z.natAbs≤10 ^ 18
def isTime:TideSkies.Call→Bool
 | .speed _=>true
 | .place _ _ _=>true
 | .row _ _ _ _=>true
 | .apart _ _ _=>true
 | _=>false
theorem zI:aI ["holder","number","given"] ["holder","number","given"] (defScope rE):=by walk_at "s"
inductive oM (a:Adr) (vs:List V) (H:Hp) (Q:VK) (E:XK):Prop
 | mk (h st k lg) (_:vs=[.ref h,.int (cN k),.ref lg]) (_:isTime k=true) (_:KOk k) (_:fT a H h st) (_:H lg=some (.lst ((cG k).map V.int))) (_:Out a H h st (TideSkies.step st k).2.nums Q E):oM a vs H Q E
theorem zR (T:Txt K mg a):Ok P w K mg base 10 a.jY ["holder","number","given"] (oM a):=by
 have hIz := @zCz P w K mg base a T;have nZ := @vQ P w K mg base a T;have f9z := @wLz P w K mg base a T;have mJ := @zEz P w K mg base a T;have yX := @iCz P w K mg base a T;refine bD T.b4z zI ?b ?l ?h;walk_at "o"
 ·obtain⟨h,st,k,lg,rfl,_⟩:=h;rfl
 ·obtain⟨h,st,k,lg,rfl,hk,hko,hH,hg,o⟩:=h
  refine⟨_,(aB (dE (aY gW (pv 1) (gI T.CDz) (nomark _)) (aE (aR (aZ eOz (dM (aA aT aD)) (pm (pv 0) T.cB T.fY hIz (hr.mono (by decide)) passX (aA (pN fC (pv 2) aT (fun _ _=>rfl)) aD))))) bA)
   (aB (dE (aY gW (pv 1) (gI T.CFz) (nomark _)) (aE (aR (aZ eOz (dM (aA aT aD)) (pm (pv 0) T.cB T.bY nZ (hr.mono (by decide)) passX (aA (pN fC (pv 2) aT (fun _ _=>rfl)) (aA (pN fC (pv 2) aT (fun _ _=>rfl)) (aA (pN fC (pv 2) aT (fun _ _=>rfl)) aD))))))) bA)
   (aB (dE (aY gW (pv 1) (gI T.k_ROW) (nomark _)) (aE (aR (pc yX (hr.mono (by decide)) (by rfl) T.fMz passX (aA (pm (pv 0) T.cB T.fB f9z (hr.mono (by decide)) passX (aA (pN fC (pv 2) aT (fun _ _=>rfl)) (aA (pN fC (pv 2) aT (fun _ _=>rfl)) (aA (pN fC (pv 2) aT (fun _ _=>rfl)) (aA (pN fC (pv 2) aT (fun _ _=>rfl)) aD))))) aD)))) bA)
   (aE (aR (dM (aA (gU (eO (pm (pv 0) T.cB T.bS mJ (hr.mono (by decide)) passX (aA (pN fC (pv 2) aT (fun _ _=>rfl)) (aA (pN fC (pv 2) aT (fun _ _=>rfl)) (aA (pN fC (pv 2) aT (fun _ _=>rfl)) aD))))) aT aT) aD))))))),?_⟩
  obtain⟨dh,v,h1,_⟩:=id hH;cases k with
  | sky=>cases hk
  | print=>cases hk
  | size=>cases hk
  | name=>cases hk
  | find=>cases hk
  | speed i =>
   refine⟨_,rfl,rfl,_,rfl,iteT ⟨(show 1≤sizeLine by decide),fun D0 hD0=>?_⟩⟩;have s0:Same H (upd H D0 (.lst [.int 0])):=aF hD0;have hd0:upd H D0 (.lst [.int 0]) D0=some (.lst [.int 0]):=aC;generalize upd H D0 (.lst [.int 0])=H0 at *;refine⟨_,rfl,h,dh,_,rfl,s0 _ _ h1,rfl,_,rfl,lg,_,_,_,rfl,rfl,SqL.of (s0 _ _ hg),fF (j:=0) rfl,h,st,i,rfl,hH.same s0,o.wave s0 hH fun L wl _ e hS o=>?_⟩;refine fun D hD=>⟨D0,D,_,_,rfl,rfl,aF hD _ _ hd0,aC,(show 3≤sizeLine by decide),fun D3 hD3=>?_⟩;have s3:=s0.trans ((aF (o := .lst (speedV L wl)) hD).trans (aF (o := .lst ([.int 0]++speedV L wl)) hD3));refine o.told _ D3 (.same s3) ?_ (hH.same s3);rw [aC];rfl
  | place i t b =>
   refine⟨_,rfl,rfl,_,rfl,iteF ⟨_,rfl,rfl,_,rfl,iteT ⟨(show 1≤sizeLine by decide),fun D0 hD0=>?_⟩⟩⟩;have s0:Same H (upd H D0 (.lst [.int 0])):=aF hD0;have hd0:upd H D0 (.lst [.int 0]) D0=some (.lst [.int 0]):=aC;generalize upd H D0 (.lst [.int 0])=H0 at *;refine⟨_,rfl,h,dh,_,rfl,s0 _ _ h1,rfl,_,rfl,lg,_,_,_,rfl,rfl,SqL.of (s0 _ _ hg),fF (j:=0) rfl,_,rfl,lg,_,_,_,rfl,rfl,SqL.of (s0 _ _ hg),fF (j:=1) rfl,_,rfl,lg,_,_,_,rfl,rfl,SqL.of (s0 _ _ hg),fF (j:=2) rfl,h,st,i,t,b,rfl,hH.same s0,o.wave s0 hH fun L wl _ e hS o=>?_⟩
   by_cases hm:TideSkies.isMinute t=false∨TideSkies.isMinute b=false
   ·rw [if_pos hm] at o ⊢
    exact o.range rfl H0 (.same s0) (hH.same s0)
   ·rw [if_neg hm] at o ⊢
    refine fun H1 D s1 hD1=>⟨D0,D,_,_,rfl,rfl,s1 _ _ hd0,hD1,(show 3≤sizeLine by decide),fun D3 hD3=>?_⟩;have s3:=(s0.trans s1).trans (aF (o := .lst ([.int 0]++[V.int ((stands L wl t b:Nat):Int),V.int (factor L wl b)])) hD3);refine o.told _ D3 (.same s3) ?_ (hH.same s3);rw [aC];rfl
  | row i t b m =>
   refine⟨_,rfl,rfl,_,rfl,iteF ⟨_,rfl,rfl,_,rfl,iteF ⟨_,rfl,rfl,_,rfl,iteT ?_⟩⟩⟩;refine⟨_,rfl,h,dh,_,rfl,h1,rfl,_,rfl,lg,_,_,_,rfl,rfl,SqL.of hg,fF (j:=0) rfl,_,rfl,lg,_,_,_,rfl,rfl,SqL.of hg,fF (j:=1) rfl,_,rfl,lg,_,_,_,rfl,rfl,SqL.of hg,fF (j:=2) rfl,_,rfl,lg,_,_,_,rfl,rfl,SqL.of hg,fF (j:=3) rfl,h,st,i,t,b,m,rfl,hH,o.wave (Same.refl _) hH fun L wl _ e hS o=>?_⟩
   by_cases hm:TideSkies.isMinute t=false∨TideSkies.isMinute b=false∨TideSkies.ROW<m∨(0<m∧TideSkies.isMinute (t+m-1)=false)
   ·rw [if_pos hm] at o ⊢
    exact o.range rfl H (.same (Same.refl _)) hH
   ·rw [if_neg hm] at o ⊢
    have hm6:m≤256:=Nat.le_of_not_lt fun z=>hm (.inr (.inr (.inl z)));refine fun H1 D s1 hD1=>⟨D,_,rfl,.inl hD1,by rw [pH];omega,fun H2 D2 s2 hD2=>?_⟩;refine o.told H2 D2 (.same (s1.trans s2)) ?_ (hH.same (s1.trans s2));rw [hD2,pH,tOz];show _=some (HO.lst (List.map V.int (0::((List.length _:Nat):Int)::(asInts _++[]))));rw [List.append_nil,List.length_map,List.length_range];rfl
  | apart i j m =>
   refine⟨_,rfl,rfl,_,rfl,iteF ⟨_,rfl,rfl,_,rfl,iteF ⟨_,rfl,rfl,_,rfl,iteF ?_⟩⟩⟩;have hmb:m≤2 ^ 72:=by
    have:=hko.num (m:Int) (List.mem_cons_of_mem _ (List.mem_cons_of_mem _ (List.mem_cons_self ..)))
    rw [Int.natAbs_natCast] at this;exact Nat.le_trans this (by decide)
   refine⟨_,rfl,h,dh,_,rfl,h1,rfl,_,rfl,lg,_,_,_,rfl,rfl,SqL.of hg,fF (j:=0) rfl,_,rfl,lg,_,_,_,rfl,rfl,SqL.of hg,fF (j:=1) rfl,_,rfl,lg,_,_,_,rfl,rfl,SqL.of hg,fF (j:=2) rfl,h,st,i,j,m,rfl,hH,hmb,o.wave (Same.refl _) hH fun L wl est e hS o=>?_⟩;cases e2:(waves L)[j]? with
   | none =>
    dsimp only;rw [e2] at o;exact o.there rfl H (.same (Same.refl _)) hH
   | some wm =>
    dsimp only;rw [e2] at o;refine⟨_,rfl,?_⟩
    by_cases hu:UNIT≤(speed L wl-speed L wm).natAbs*m
    ·rw [decide_eq_true hu]
     dsimp only at o;rw [if_pos hu] at o;exact iteT ⟨(show 1≤sizeLine by decide),fun D hD=>o.told _ D (.same (aF hD)) (by rw [aC];rfl) (hH.same (aF hD))⟩
    ·rw [decide_eq_false hu]
     dsimp only at o;rw [if_neg hu] at o;exact iteF ⟨(show 1≤sizeLine by decide),fun D hD=>o.told _ D (.same (aF hD)) (by rw [aC];rfl) (hH.same (aF hD))⟩
inductive oCz (a:Adr) (H:Hp) (c:Addr) (k:TideSkies.Call) (behind:Int):Prop
 | mk (dc lg lr) (_:H c=some (.ins a.kK dc (sS (.int (cN k)) (.ref lg) (.ref lr) (.int behind)))) (_:H lg=some (.lst ((cG k).map V.int))) (_:H lr=some (.lst (bV (cR k)))):oCz a H c k behind
theorem dLz (b:Bytes) (z:Int):(tells z [.text b]).nums.map V.int = .int z :: .int ((b.length:Nat):Int)::bV b:=by
 show (z::(((b.length:Int)::b.map fun (c:UInt8)=>(c.toNat:Int))++[])).map V.int=_;rw [List.append_nil,List.map_cons,List.map_cons,List.map_map];rfl
theorem a8z:aI ["holder","call","sky"] ["holder","call"] (defScope eGz):=by walk_at "s"
inductive a2z (a:Adr) (vs:List V) (H:Hp) (Q:VK) (E:XK):Prop
 | mk (h st c k bh) (_:vs=[.ref h,.ref c]) (_:fT a H h st) (_:(∀L,st=some L→(printed L).length≤16000)) (_:oCz a H c k bh) (_:KOk k) (_:Out a H h (TideSkies.step st k).1 (TideSkies.step st k).2.nums Q E):a2z a vs H Q E
theorem m5z (T:Txt K mg a) (hd:Dc a):Ok P w K mg base 15 a.wS ["holder","call"] (a2z a):=by
 have aNz := @pFz P w K mg base a T hd;have dG := @vR P w K mg base a T;have cY := @ePz P w K mg base a T;have uB := @gRz P w K mg base a T;have yX := @iCz P w K mg base a T;have cQz := @zR P w K mg base a T;refine bD T.oTz a8z ?b ?l ?h;walk_at "o"
 ·obtain⟨h,st,c,k,bh,rfl,_⟩:=h;rfl
 ·obtain⟨h,st,c,k,bh,rfl,hH,hpr,⟨dc,lg,lr,c1,c2,c3⟩,hko,o⟩:=h
  refine⟨_,(aB (dE (aY gW (aM (pv 1) rfl) (gI T.k_SKY) (nomark _)) (aB (aU (pm (pv 0) T.cB T.eB aNz (hr.mono (by decide)) passX (aA (aM (pv 1) rfl) aD)))
   (aE (aR (dM (aA aT aD))))) bA)
   (aB (dE (aY gW (aM (pv 1) rfl) (gI T.CEz) (nomark _)) (aE (aR (pc yX (hr.mono (by decide)) (by rfl) T.fMz passX (aA (aM (pm0 (pv 0) T.cB T.cA dG (hr.mono (by decide)) passX) rfl) aD)))) bA)
   (aB (dE (aY gW (aM (pv 1) rfl) (gI T.k_SIZE) (nomark _)) (aB (aP (i:=2) a8z.nd rfl (Or.inl rfl) (pm0 (pv 0) T.cB T.cA dG (hr.mono (by decide)) passX))
   (aE (aR (dM (aA aT (aA (bH bT (by rfl) T.mX nI (aA (aM (pv 2) rfl) aD)) (aA (bH bT (by rfl) T.mX nI (aA (aM (pv 2) rfl) aD)) aD))))))) bA)
   (aB (dE (aY gW (aM (pv 1) rfl) (gI T.k_NAME) (nomark _)) (aE (aR (pc yX (hr.mono (by decide)) (by rfl) T.fMz passX (aA (aM (pm (pv 0) T.cB T.cW cY (hr.mono (by decide)) passX (aA (pN fC (aM (pv 1) rfl) aT (fun _ _=>rfl)) aD)) rfl) aD)))) bA)
   (aB (dE (aY gW (aM (pv 1) rfl) (gI T.AVz) (nomark _)) (aE (aR (dM (aA (pm (pv 0) T.cB T.dD uB (hr.mono (by decide)) passX (aA (aM (pv 1) rfl) aD)) aD)))) bA)
   (aE (aR (pc cQz (hr.mono (by decide)) (by rfl) T.cHz passX (aA (pv 0) (aA (aM (pv 1) rfl) (aA (aM (pv 1) rfl) aD))))))))))),?_⟩
  obtain⟨dh,v,h1,h2⟩:=id hH;have rd:∀(z:Str) (v:V),True:=fun _ _=>trivial;refine⟨_,rfl,c,_,dc,_,_,rfl,c1,T.bC,T.aN,aL _ _ _ _,rfl,_,rfl,?_⟩;cases k with
  | sky t =>
   refine iteT ⟨_,rfl,h,dh,_,rfl,h1,rfl,_,rfl,c,_,dc,_,_,rfl,c1,T.bC,T.zT,fQz _ _ _ _,h,st,lr,t,rfl,hH,c3,hko.row,?_⟩
   have o':Out a H h (match Tide.judge t with
    | .error (k,p)=>(st,fault (-6) k p)
    | .ok l=>(some l,says 0)).1 (match Tide.judge t with
    | .error (k,p)=>(st,fault (-6) k p)
    | .ok l=>(some l,says 0)).2.nums Q E:=o
   cases hj:Tide.judge t with
   | error f =>
    obtain⟨f1,f2⟩:=f;rw [hj] at o';exact fun H' d kp ft=>o'.fault f1 f2 rfl H' d (.kp kp (.inl rfl)) ft (hH.kc kp hd.ncr hd.sr hd.hr)
   | ok L =>
    rw [hj] at o';refine fun H1 H2 H' k1 k2 k3 hH'=>⟨(show 1≤sizeLine by decide),fun D hD=>?_⟩;have kk:K3 a H H':=((K3.kp k1 (.inl rfl)).trans (.kp k2 (.inr (.inl rfl)))).trans (.kp k3 (.inr (.inr rfl)));exact o'.told _ D (kk.trans (.same (aF hD))) (by rw [aC];rfl) (hH'.same (aF hD))
  | print =>
   refine iteF ⟨_,rfl,c,_,dc,_,_,rfl,c1,T.bC,T.aN,aL _ _ _ _,rfl,_,rfl,iteT ?_⟩;refine⟨_,rfl,h,dh,_,rfl,h1,rfl,h,st,rfl,hH,?_⟩;cases st with
   | none=>exact o.nosky rfl H (.same (Same.refl _)) hH
   | some L =>
    refine fun x hx hS=>?_;obtain⟨dx,la,lw,ln,lp,as,g1,g2,g3,g5,g6⟩:=id hx;refine⟨x,_,dx,_,_,rfl,g1,T.vD,T.yF,rfl,lp,_,rfl,.inl g6,by rw [bU];exact Nat.le_trans (hpr L rfl) (by decide),fun H1 D s1 hD1=>?_⟩;refine o.told H1 D (.same s1) ?_ (hH.same s1);rw [hD1,bU];exact congrArg (fun z=>some (HO.lst z)) (dLz (printed L) 0).symm
  | size =>
   refine iteF ⟨_,rfl,c,_,dc,_,_,rfl,c1,T.bC,T.aN,aL _ _ _ _,rfl,_,rfl,iteF ⟨_,rfl,c,_,dc,_,_,rfl,c1,T.bC,T.aN,aL _ _ _ _,rfl,_,rfl,iteT ?_⟩⟩;refine⟨_,rfl,h,dh,_,rfl,h1,rfl,h,st,rfl,hH,?_⟩;cases st with
   | none=>exact o.nosky rfl H (.same (Same.refl _)) hH
   | some L =>
    refine fun x hx hS=>?_;dsimp only [gName];obtain⟨dx,la,lw,ln,lp,as,g1,g2,⟨ws,g3,g4⟩,g5,g6⟩:=id hx;refine⟨_,rfl,x,_,dx,_,_,rfl,g1,T.vD,T.bNz,rfl,la,_,rfl,.inl (SqL.of g2.1),_,rfl,x,_,dx,_,_,rfl,g1,T.vD,T.pU,rfl,lw,_,rfl,.inl (SqL.of g3),(show 3≤sizeLine by decide),fun D hD=>?_⟩;refine o.told _ D (.same (aF hD)) ?_ (hH.same (aF hD));rw [aC,g2.2,List.length_map,show ws.length=(waves L).length from Paired.length g4];rfl
  | name i =>
   refine iteF ⟨_,rfl,c,_,dc,_,_,rfl,c1,T.bC,T.aN,aL _ _ _ _,rfl,_,rfl,iteF ⟨_,rfl,c,_,dc,_,_,rfl,c1,T.bC,T.aN,aL _ _ _ _,rfl,_,rfl,iteF ⟨_,rfl,c,_,dc,_,_,rfl,c1,T.bC,T.aN,aL _ _ _ _,rfl,_,rfl,iteT ?_⟩⟩⟩;refine⟨_,rfl,h,dh,_,rfl,h1,rfl,_,rfl,c,_,dc,_,_,rfl,c1,T.bC,T.gO,iD _ _ _ _,lg,_,_,_,rfl,rfl,SqL.of c2,fF (j:=0) rfl,h,st,i,rfl,hH,?_⟩;have o2:Out a H h st (TideSkies.ofWave st i fun _ w=>tells 0 [.text w.name]).2.nums Q E:=o;refine o2.wave (Same.refl _) hH fun L wl _ e hS o=>?_;refine fun x ⟨dx,nn,cc,lm,w1,w2,_,_⟩=>?_;obtain⟨m1,m2,_⟩:=vI e;have hnl:=(j2z (hS.ok wl m1)).2;refine⟨x,_,dx,_,_,rfl,w1,T.jZ,T.vU,bQz _ _ _,nn,_,rfl,.inr w2,by rw [bU];omega,fun H1 D s1 hD1=>?_⟩;refine o.told H1 D (.same s1) ?_ (hH.same s1);rw [hD1,bU];exact congrArg (fun z=>some (HO.lst z)) (dLz wl.name 0).symm
  | find n =>
   refine iteF ⟨_,rfl,c,_,dc,_,_,rfl,c1,T.bC,T.aN,aL _ _ _ _,rfl,_,rfl,iteF ⟨_,rfl,c,_,dc,_,_,rfl,c1,T.bC,T.aN,aL _ _ _ _,rfl,_,rfl,iteF ⟨_,rfl,c,_,dc,_,_,rfl,c1,T.bC,T.aN,aL _ _ _ _,rfl,_,rfl,iteF ⟨_,rfl,c,_,dc,_,_,rfl,c1,T.bC,T.aN,aL _ _ _ _,rfl,_,rfl,iteT ?_⟩⟩⟩⟩;refine⟨_,rfl,h,dh,_,rfl,h1,rfl,_,rfl,c,_,dc,_,_,rfl,c1,T.bC,T.zT,fQz _ _ _ _,h,st,lr,n,rfl,hH,c3,?_⟩;cases st with
   | none=>exact o.nosky rfl H (.same (Same.refl _)) hH
   | some L =>
    have o':Out a H h (some L) (match (waves L).findIdx? fun (w:Line)=>w.name == n with
     | none=>says (-4)
     | some i=>says (i:Nat)).nums Q E:=o
    show (match (waves L).findIdx? (fun w=>w.name == n) with | none=>_ | some i=>_);cases e:(waves L).findIdx? (fun w=>w.name == n) with
    | none =>
     rw [e] at o';exact fun H' s=>o'.there rfl H' (.same s) (hH.same s)
    | some i =>
     rw [e] at o';refine fun H' s=>⟨(show 1≤sizeLine by decide),fun D hD=>?_⟩;have s3:=s.trans (aF (o := .lst [V.int ((i:Nat):Int)]) hD);exact o'.told _ D (.same s3) (by rw [aC];rfl) (hH.same s3)
  | speed i =>
   refine iteF ⟨_,rfl,c,_,dc,_,_,rfl,c1,T.bC,T.aN,aL _ _ _ _,rfl,_,rfl,iteF ⟨_,rfl,c,_,dc,_,_,rfl,c1,T.bC,T.aN,aL _ _ _ _,rfl,_,rfl,iteF ⟨_,rfl,c,_,dc,_,_,rfl,c1,T.bC,T.aN,aL _ _ _ _,rfl,_,rfl,iteF ⟨_,rfl,c,_,dc,_,_,rfl,c1,T.bC,T.aN,aL _ _ _ _,rfl,_,rfl,iteF ?_⟩⟩⟩⟩;exact⟨_,rfl,_,rfl,c,_,dc,_,_,rfl,c1,T.bC,T.aN,aL _ _ _ _,_,rfl,c,_,dc,_,_,rfl,c1,T.bC,T.gO,iD _ _ _ _,h,st,.speed i,lg,rfl,rfl,hko,hH,c2,o⟩
  | place i t b =>
   refine iteF ⟨_,rfl,c,_,dc,_,_,rfl,c1,T.bC,T.aN,aL _ _ _ _,rfl,_,rfl,iteF ⟨_,rfl,c,_,dc,_,_,rfl,c1,T.bC,T.aN,aL _ _ _ _,rfl,_,rfl,iteF ⟨_,rfl,c,_,dc,_,_,rfl,c1,T.bC,T.aN,aL _ _ _ _,rfl,_,rfl,iteF ⟨_,rfl,c,_,dc,_,_,rfl,c1,T.bC,T.aN,aL _ _ _ _,rfl,_,rfl,iteF ?_⟩⟩⟩⟩;exact⟨_,rfl,_,rfl,c,_,dc,_,_,rfl,c1,T.bC,T.aN,aL _ _ _ _,_,rfl,c,_,dc,_,_,rfl,c1,T.bC,T.gO,iD _ _ _ _,h,st,.place i t b,lg,rfl,rfl,hko,hH,c2,o⟩
  | row i t b m =>
   refine iteF ⟨_,rfl,c,_,dc,_,_,rfl,c1,T.bC,T.aN,aL _ _ _ _,rfl,_,rfl,iteF ⟨_,rfl,c,_,dc,_,_,rfl,c1,T.bC,T.aN,aL _ _ _ _,rfl,_,rfl,iteF ⟨_,rfl,c,_,dc,_,_,rfl,c1,T.bC,T.aN,aL _ _ _ _,rfl,_,rfl,iteF ⟨_,rfl,c,_,dc,_,_,rfl,c1,T.bC,T.aN,aL _ _ _ _,rfl,_,rfl,iteF ?_⟩⟩⟩⟩;exact⟨_,rfl,_,rfl,c,_,dc,_,_,rfl,c1,T.bC,T.aN,aL _ _ _ _,_,rfl,c,_,dc,_,_,rfl,c1,T.bC,T.gO,iD _ _ _ _,h,st,.row i t b m,lg,rfl,rfl,hko,hH,c2,o⟩
  | apart i j m =>
   refine iteF ⟨_,rfl,c,_,dc,_,_,rfl,c1,T.bC,T.aN,aL _ _ _ _,rfl,_,rfl,iteF ⟨_,rfl,c,_,dc,_,_,rfl,c1,T.bC,T.aN,aL _ _ _ _,rfl,_,rfl,iteF ⟨_,rfl,c,_,dc,_,_,rfl,c1,T.bC,T.aN,aL _ _ _ _,rfl,_,rfl,iteF ⟨_,rfl,c,_,dc,_,_,rfl,c1,T.bC,T.aN,aL _ _ _ _,rfl,_,rfl,iteF ?_⟩⟩⟩⟩;exact⟨_,rfl,_,rfl,c,_,dc,_,_,rfl,c1,T.bC,T.aN,aL _ _ _ _,_,rfl,c,_,dc,_,_,rfl,c1,T.bC,T.gO,iD _ _ _ _,h,st,.apart i j m,lg,rfl,rfl,hko,hH,c2,o⟩
structure De (a:Adr):Prop where
 no:a.mC≠a.dB
 to:a.bP≠a.dB
 tn:a.bP≠a.mC
 ao:a.bG≠a.dB
 an:a.bG≠a.mC
 at_:a.bG≠a.bP
theorem kG:aI ["holder","call","fault"] ["holder","call"] (defScope lK):=by walk_at "s"
inductive kF (a:Adr) (vs:List V) (H:Hp) (Q:VK) (_E:XK):Prop
 | mk (h st c k bh) (_:vs=[.ref h,.ref c]) (_:fT a H h st) (_:(∀L,st=some L→(printed L).length≤16000)) (_:oCz a H c k bh) (_:KOk k) (_:∀H' D,K3 a H H'→H' D=some (.lst ((TideSkies.step st k).2.nums.map V.int))→fT a H' h (TideSkies.step st k).1→Q (.ref D) H'):kF a vs H Q _E
theorem uA (T:Txt K mg a) (hd:Dc a) (he:De a):Ok P w K mg base 16 a.gK ["holder","call"] (kF a):=by
 have qTz := @m5z P w K mg base a T hd;obtain⟨fd,F1,hb,hk⟩:=qTz;refine bD T.vK kG ?b ?l ?h;walk_at "o"
 ·obtain⟨h,st,c,k,bh,rfl,_⟩:=h;rfl
 ·obtain⟨h,st,c,k,bh,rfl,hH,hpr,hC,hko,o⟩:=h
  refine⟨_,(aE (wBz F1 (hr.mono (by decide)) (by rfl) T.p6z hk hb (fun _=>aA (pv 0) (aA (pv 1) aD))
   (kDz (by rfl) T.sP T.mK (fun _ _=>aE (aR (dM (aA (jUz xA aT) aD))))
   (kDz (by rfl) T.xSz T.oHz (fun _ _=>aE (aR (dM (aA (jUz xA aT) aD))))
   (kDz (by rfl) T.aDz T.tG (fun _ _=>aE (aR (dM (aA (jUz xA aT) aD))))
   (hb_as (i:=2) (by rfl) T.nSz T.jC kG.nd rfl rfl (fun _=>rfl) (fun _ _=>aE (aR (dM (aA (jUz xA aT) (aA (pe_xf (pv 2) T.jC (by decide) (by decide) (by decide) sTz rfl) (aA (pe_xf (pv 2) T.jC (by decide) (by decide) (by decide) nXz rfl) aD))))))
   zTz)))) rfl rfl rfl)),?_⟩
  have one:∀(z:Int) (σ : L2.St) (H':Hp),(TideSkies.step st k).2.nums=[-z]→K3 a H H'→fT a H' h (TideSkies.step st k).1→tRet (tLst (tCons (tUn (rU fun i=>V.int (-i)) (tC (V.int z))) tNil)) {nx:=fun _ H'=>Q .non H',rt:=Q} σ H':=fun z σ H' hz hK hH'=>by
   refine⟨_,rfl,(show 1≤sizeLine by decide),fun D hD=>o _ D (hK.trans (.same (aF hD))) ?_ (hH'.same (aF hD))⟩;rw [aC,hz];rfl
  refine⟨_,rfl,_,rfl,h,st,c,k,bh,rfl,hH,hpr,hC,hko,⟨fun H' D hK hD hH'=>o H' D hK hD hH',fun hz H' hK hH'=>⟨a.dB,_,_,rfl,T.mK,?_⟩,fun hz H' hK hH'=>⟨a.mC,_,_,rfl,T.oHz,?_⟩,fun hz H' hK hH'=>⟨a.bP,_,_,rfl,T.tG,?_⟩,fun kd p hz H' d hK hF hH'=>⟨a.bG,_,_,rfl,T.jC,?_⟩⟩⟩
  ·unfold tHp
   rw [if_pos rfl];exact one 1 _ H' hz hK hH'
  ·unfold tHp
   rw [if_neg he.no,if_pos rfl];exact one 3 _ H' hz hK hH'
  ·unfold tHp
   rw [if_neg he.to,if_neg he.tn,if_pos rfl];exact one 4 _ H' hz hK hH'
  ·unfold tHp tHas
   rw [if_neg he.ao,if_neg he.an,if_neg he.at_,if_pos rfl];intro ea hea;have hne:d≠ea:=fun z=>by rw [z] at hF;exact absurd (hF.symm.trans hea) (by intro z;cases z)
   have s1:Same H' (upd H' ea (gotO ea a.bG (some d))):=aF hea;have hF1:=s1 _ _ hF;have hea1:upd H' ea (gotO ea a.bG (some d)) ea=some (gotO ea a.bG (some d)):=aC;generalize upd H' ea (gotO ea a.bG (some d))=H1 at *;refine⟨_,rfl,_,rfl,ea,d,_,_,rfl,hea1,hF1,hne,rfl,_,rfl,ea,d,_,_,rfl,hea1,hF1,hne,rfl,(show 3≤sizeLine by decide),fun D hD=>o _ D (hK.trans (.same (s1.trans (aF hD)))) ?_ (hH'.same (s1.trans (aF hD)))⟩;rw [aC,hz];rfl
def hasRow:TideSkies.Call→Bool
 | .sky _=>true
 | .find _=>true
 | _=>false
theorem AIz {row:List Int} (h:isB row=true):row.map V.int=bV (toB row):=by
 unfold bV toB;rw [List.map_map];refine List.map_congr_left fun z hz=>?_;have hb:=List.all_eq_true.mp h z hz;rw [Bool.and_eq_true,decide_eq_true_eq,decide_eq_true_eq] at hb;show V.int z=V.int (((UInt8.ofNat z.toNat).toNat:Nat):Int);rw [UInt8.toNat_ofNat'];congr 1;omega
theorem n2z {d t:List Int} {k:TideSkies.Call} (h:nM d k t):∃rest,d=cN k::(cG k++rest)∧((hasRow k=true∧cG k=[]∧∃row:List Int,rest=(row.length:Int)::(row++t)∧row.map V.int=bV (cR k))∨(hasRow k=false∧cR k=[]∧rest=t)):=by
 cases h with
 | sky row t hb=>exact⟨_,rfl,.inl ⟨rfl,rfl,row,rfl,AIz hb⟩⟩
 | find row t hb=>exact⟨_,rfl,.inl ⟨rfl,rfl,row,rfl,AIz hb⟩⟩
 | print=>exact⟨_,rfl,.inr ⟨rfl,rfl,rfl⟩⟩
 | size=>exact⟨_,rfl,.inr ⟨rfl,rfl,rfl⟩⟩
 | name=>exact⟨_,rfl,.inr ⟨rfl,rfl,rfl⟩⟩
 | speed=>exact⟨_,rfl,.inr ⟨rfl,rfl,rfl⟩⟩
 | place=>exact⟨_,rfl,.inr ⟨rfl,rfl,rfl⟩⟩
 | row=>exact⟨_,rfl,.inr ⟨rfl,rfl,rfl⟩⟩
 | apart=>exact⟨_,rfl,.inr ⟨rfl,rfl,rfl⟩⟩
def wholes:List V:=[.int 0,.int 0,.int 0,.int 1,.int 0,.int 1,.int 3,.int 4,.int 3]
theorem yZz (k:TideSkies.Call):atI wholes (cN k)=some (.int ((cG k).length:Nat)):=by cases k <;> rfl
theorem row_in (k:TideSkies.Call):inV (.int (cN k)) [.int 0,.int 4]=hasRow k:=by cases k <;> rfl
theorem yJz (A m t:List Int):cutV ((A++(m++t)).map V.int) (some ((A.length:Nat):Int)) (some ((A.length+m.length:Nat):Int))=m.map V.int:=by
 unfold cutV;rw [HT.v3z,HT.v3z];simp only [List.length_map,List.length_append];rw [show min A.length (A.length+(m.length+t.length))=A.length by omega,show min (A.length+m.length) (A.length+(m.length+t.length))=A.length+m.length by omega,show A.length+m.length-A.length=m.length by omega,← List.map_drop,← List.map_take,List.drop_left,List.take_left]
theorem A2z {A t:List Int} {z:Int} {n:Nat} (hn:n=A.length):atI ((A++z::t).map V.int) ((n:Nat):Int)=some (.int z):=by
 refine fF ?_;rw [hn,List.getElem?_map,List.getElem?_append_right (Nat.le_refl _),Nat.sub_self];rfl
theorem BIz {H H':Hp} {l:Addr} {o:HO} (h:Rd H l o) (s:Same H H'):Rd H' l o:=h.elim (fun z => .inl (s _ _ z)) fun ⟨u,z⟩ => .inr ⟨u,s _ _ z⟩
theorem jGz {K:W.Frag} {H H':Hp} {l:Addr} {xs:List V} (h:SqL K H l xs) (s:Same H H'):SqL K H' l xs:=h.elim (fun z => .inl (BIz z s)) .inr
theorem as_h {F:Hp→Prop} {H H':Hp} (e:H=H') (h:F H'):F H:=e ▸ h
theorem eE:aI ["calls","place","number","behind","given","row","start"] ["calls","place"] (defScope eAz):=by walk_at "s"
inductive aXz (K:W.Frag) (a:Adr) (vs:List V) (H:Hp) (Q:VK) (_E:XK):Prop
 | mk (l:Addr) (xs:List Int) (p:Nat) (k:TideSkies.Call) (t:List Int) (_:vs=[.ref l,.int ((p:Nat):Int)]) (_:SqL K H l (xs.map V.int)) (_:xs.length≤16000) (_:(∀z∈xs,z.natAbs≤10 ^ 18)) (_:p≤xs.length) (_:nM (xs.drop p) k t) (_:∀H' c,Same H H'→oCz a H' c k (((xs.length-t.length:Nat)):Int)→KOk k→Q (.ref c) H'):aXz K a vs H Q _E
theorem m0z (T:Txt K mg a):Ok P w K mg base 3 a.wN ["calls","place"] (aXz K a):=by
 have G_Call := @B2z P w K mg base a T;refine bD T.oOz eE ?b ?l ?h;walk_at "o"
 ·obtain⟨l,xs,p,k,t,rfl,_⟩:=h;rfl
 ·obtain⟨l,xs,p,k,t,rfl,hl,hlen,hbd,hp,hcall,q⟩:=h
  refine⟨_,(aB (aP (i:=2) eE.nd rfl (Or.inl rfl) (pN fC (pv 0) (pv 1) (fun _ _=>rfl)))
   (aB (aP (i:=3) eE.nd rfl (Or.inl rfl) (aZ gN (aZ gN (pv 1) aT) (pN ix_tup (show PE _ _ (tC (.ref a.f3z)) from pBz (by rfl) T.fDz rfl) (pv 2) (fun _ _=>rfl))))
   (aB (aP (i:=4) eE.nd rfl (Or.inl rfl) (sAz vZz (pv 0) (sD (aZ gN (pv 1) aT)) (sD (pv 3))))
   (aB (aP (i:=5) eE.nd rfl (Or.inl rfl) (dM aD))
   (aB (dE (aY mUz (pv 2) (ANz (aA (gI T.k_SKY) (aA (gI T.AVz) aD))) (by rfl)) (aB (aP (i:=6) eE.nd rfl (Or.inl rfl) (aZ gN (pv 3) aT))
   (aB (aP (i:=3) eE.nd rfl (Or.inl rfl) (aZ gN (pv 6) (pN fC (pv 0) (pv 3) (fun _ _=>rfl))))
   (aE (aP (i:=5) eE.nd rfl (Or.inl rfl) (sAz vZz (pv 0) (sD (pv 6)) (sD (pv 3))))))) bA)
   (aE (aR (pn T.B8z G_Call (hr.mono (by decide)) (by rfl) T.g_Call passN (aA (pv 2) (aA (pv 4) (aA (pv 5) (aA (pv 3) aD)))))))))))),?_⟩
  obtain⟨rest,hd,hrest⟩:=n2z hcall;have hx:xs=xs.take p++cN k::(cG k++rest):=by rw [← hd,List.take_append_drop]
  have hpl:(xs.take p).length=p:=by rw [List.length_take];omega
  generalize xs.take p=pre at *;have hsub:∀z∈cG k,z.natAbs≤10 ^ 18:=fun z hz=>hbd z (by rw [hx];exact List.mem_append_right _ (List.mem_cons_of_mem _ (List.mem_append_left _ hz)));have hxl:xs.length=p+(1+((cG k).length+rest.length)):=by
   rw [hx,List.length_append,List.length_cons,List.length_append,hpl];omega
  obtain⟨ow,its,w1,w2,⟨nw,w3⟩,w4⟩:=T.dDz
  have hsq:∀H':Hp,SqT K H' a.f3z wholes:=fun H' => .inr ⟨ow,its,nw,w1,w2,w3,by
   have h9:=w4.length;rw [Array.length_toList] at h9
   have:(9:Nat)=its.size:=h9
   rw [← this];decide,w4⟩
  refine⟨_,rfl,_,rfl,l,_,_,_,rfl,rfl,hl,by rw [hx];exact A2z hpl.symm,?_⟩;dsimp only [gName];refine⟨_,rfl,_,_,rfl,rfl,_,rfl,a.f3z,_,_,_,rfl,rfl,hsq _,yZz k,_,_,rfl,rfl,?_⟩;dsimp only [gName];have e1:cutV (xs.map V.int) (some ((p:Int)+1)) (some ((p:Int)+1+(((cG k).length:Nat):Int)))=(cG k).map V.int:=by
   have h:=yJz (pre++[cN k]) (cG k) rest;have hl1:(pre++[cN k]).length=p+1:=by rw [List.length_append,hpl];rfl
   rw [hl1] at h;rw [hx];rw [show pre++cN k::(cG k++rest)=pre++[cN k]++(cG k++rest) by rw [List.append_assoc];rfl];rw [show (p:Int)+1+(((cG k).length:Nat):Int)=((p+1+(cG k).length:Nat):Int) by omega,show (p:Int)+1=((p+1:Nat):Int) by omega];exact h
  refine⟨_,rfl,_,rfl,_,_,rfl,rfl,_,rfl,_,rfl,_,rfl,l,_,rfl,hl,fun D1 hD1=>?_⟩;dsimp only [gName];refine as_h (congrArg (fun z=>upd H D1 (.lst z)) e1) ?_;have s1:Same H (upd H D1 (.lst ((cG k).map V.int))):=aF hD1;have hg1:upd H D1 (.lst ((cG k).map V.int)) D1=some (.lst ((cG k).map V.int)):=aC;generalize upd H D1 (.lst ((cG k).map V.int))=H1 at *;refine⟨Nat.zero_le _,fun D2 hD2=>?_⟩;dsimp only [gName];have s2:Same H1 (upd H1 D2 (.lst [])):=aF hD2;have hr2:upd H1 D2 (.lst []) D2=some (.lst []):=aC;generalize upd H1 D2 (.lst [])=H2 at *;have fin:∀(H3:Hp) (lr:Addr) (v6:Option V) (bh:Int),Same H2 H3→H3 lr=some (.lst (bV (cR k)))→bh=(((xs.length-t.length:Nat)):Int)→(cR k).length≤16000→tRet (tMk a.kK (o4z a) EN (tCons (tVar 2) (tCons (tVar 4) (tCons (tVar 5) (tCons (tVar 3) tNil))))) {nx:=fun _ H'=>Q .non H',rt:=Q} [some (.ref l),some (.int ((p:Nat):Int)),some (.int (cN k)),some (.int bh),some (.ref D1),some (.ref lr),v6] H3:=by
   intro H3 lr v6 bh s3 hlr hbh hcr;refine⟨_,rfl,_,rfl,_,rfl,_,rfl,fun x dx nx ndx hne=>⟨x,dx,_,_,_,_,rfl,aC,rfl,?_⟩⟩;rw [kJ];have s4:Same H3 (mkH H3 x dx a.kK (sS (.int (cN k)) (.ref D1) (.ref lr) (.int bh))):=dS nx ndx;subst hbh;exact q _ x ((s1.trans s2).trans (s3.trans s4)) ⟨dx,D1,lr,iH,s4 _ _ (s3 _ _ (s2 _ _ hg1)),s4 _ _ hlr⟩ ⟨hcr,hsub⟩
  refine lE (fun σ' H3=>∃(lr:Addr) (v6:Option V) (bh:Int),σ'=[some (.ref l),some (.int ((p:Nat):Int)),some (.int (cN k)),some (.int bh),some (.ref D1),some (.ref lr),v6]∧Same H2 H3∧H3 lr=some (.lst (bV (cR k)))∧bh=(((xs.length-t.length:Nat)):Int)∧(cR k).length≤16000) (fun N hN=>?_) ?_
  ·refine⟨_,rfl,(show 2≤sizeLine by decide),fun U hU=>⟨U,_,rfl,.inr (SqT.of aC),rfl,rfl,_,rfl,?_⟩⟩
   have s3:Same H2 (upd H2 U (.tup [.int 0,.int 4])):=aF hU;generalize upd H2 U (.tup [.int 0,.int 4])=H3 at *;simp only [Bool.false_eq_true,if_false];rw [row_in];rcases hrest with ⟨hr,hG,row,hrow,hrb⟩ | ⟨hr,hR,hrow⟩
   ·rw [hr]
    have hlc:row.length=(cR k).length:=by
     have:=congrArg List.length hrb
     rw [List.length_map,bU] at this;exact this
    have hG0:(cG k).length=0:=by rw [hG];rfl
    have hrl:rest.length=1+(row.length+t.length):=by rw [hrow,List.length_cons,List.length_append];omega
    have hcr:(cR k).length≤16000:=by omega
    have s03:=(s1.trans s2).trans s3;have hat:atI (xs.map V.int) ((p:Int)+1+(((cG k).length:Nat):Int))=some (.int (row.length:Int)):=by
     rw [hx,hG,hrow,show (p:Int)+1+((([]:List Int).length:Nat):Int)=((p+1:Nat):Int) by show (p:Int)+1+0=_;omega,show pre++cN k::([]++(row.length:Int)::(row++t))=(pre++[cN k])++(row.length:Int)::(row++t) by rw [List.append_assoc];rfl];exact A2z (by rw [List.length_append,hpl];rfl)
    have e2:cutV (xs.map V.int) (some ((p:Int)+1+(((cG k).length:Nat):Int)+1)) (some ((p:Int)+1+(((cG k).length:Nat):Int)+1+(row.length:Int)))=bV (cR k):=by
     have h:=yJz (pre++[cN k]++[(row.length:Int)]) row t;have hl1:(pre++[cN k]++[(row.length:Int)]).length=p+2:=by rw [List.length_append,List.length_append,hpl];rfl
     rw [hl1] at h;rw [hx,hG,hrow,show pre++cN k::([]++(row.length:Int)::(row++t))=pre++[cN k]++[(row.length:Int)]++(row++t) by rw [List.append_assoc,List.append_assoc];rfl];rw [show (p:Int)+1+((([]:List Int).length:Nat):Int)+1+(row.length:Int)=((p+2+row.length:Nat):Int) by show (p:Int)+1+0+1+(row.length:Int)=_;omega,show (p:Int)+1+((([]:List Int).length:Nat):Int)+1=((p+2:Nat):Int) by show (p:Int)+1+0+1=_;omega,h,hrb]
    refine iteT ⟨_,rfl,_,_,rfl,rfl,?_⟩;dsimp only [gName];refine⟨_,rfl,_,rfl,_,rfl,l,_,_,_,rfl,rfl,(jGz hl s03),hat,_,_,rfl,rfl,?_⟩;dsimp only [gName];refine⟨_,rfl,_,rfl,_,rfl,_,rfl,_,rfl,l,_,rfl,(jGz hl s03),fun D3 hD3=>?_⟩;refine hN _ _ ⟨D3,some (.int ((p:Int)+1+(((cG k).length:Nat):Int)+1)),(p:Int)+1+(((cG k).length:Nat):Int)+1+(row.length:Int),rfl,s3.trans (aF hD3),?_,?_,hcr⟩
    ·rw [aC]
     exact congrArg (fun z=>some (HO.lst z)) e2
    ·omega
   ·rw [hr]
    refine iteF (hN _ _ ⟨D2,none,(p:Int)+1+(((cG k).length:Nat):Int),rfl,s3,?_,?_,?_⟩)
    ·rw [s3 _ _ hr2,hR]
     rfl
    ·rw [hrow] at hxl
     omega
    ·rw [hR]
     exact Nat.zero_le _
  ·rintro σ' H3 ⟨lr,v6,bh,rfl,z1,z2,z3,z4⟩
   exact fin H3 lr v6 bh z1 z2 z3 z4
def HPr (st:TideSkies.State):Prop := ∀L,st=some L→Sky L∧(printed L).length≤16000
theorem xLz {t:Bytes} {L:List Line} (h:Tide.judge t = .ok L):Sky L∧(printed L).length≤t.length:=by
 rw [fEz] at h;cases hg:grammar t with
 | error p=>rw [hg] at h;cases h
 | ok l =>
  rw [hg] at h;dsimp only at h;have hta:=zZ hg;cases hs:scan [] l with
  | some f=>rw [hs] at h;cases h
  | none =>
   rw [hs] at h;cases h;exact⟨⟨zG _ [] cJz.nil hs,hta.ok⟩,Nat.le_trans hta.txt (Nat.sub_le _ _)⟩
theorem HPr.step {st:TideSkies.State} {k:TideSkies.Call} (h:HPr st) (hk:KOk k):HPr (TideSkies.step st k).1:=by
 cases k with
 | sky t =>
  show HPr (match Tide.judge t with
   | .error (k,p)=>(st,fault (-6) k p)
   | .ok l=>(some l,says 0)).1
  cases hj:Tide.judge t with
  | error f=>exact h
  | ok L =>
   intro L' e;have e':L=L':=Option.some.inj e;subst e';obtain⟨h1,h2⟩:=xLz hj;exact⟨h1,Nat.le_trans h2 hk.row⟩
 | _=>exact h
theorem rO {st:TideSkies.State} {i:Nat} {f:List Line→Line→Answer} {n:Nat} (h1:1≤n) (hf:∀L wl,st=some L→(waves L)[i]?=some wl→(f L wl).nums.length≤n):(TideSkies.ofWave st i f).2.nums.length≤n:=by
 cases st with
 | none=>exact h1
 | some L =>
  show (match (waves L)[i]? with
   | none=>says (-4)
   | some wl=>f L wl).nums.length≤n
  cases e:(waves L)[i]? with
  | none=>exact h1
  | some wl=>exact hf L wl rfl e
theorem rJz (b:Bytes) (z:Int):(tells z [.text b]).nums.length=b.length+2:=by
 have:=congrArg List.length (dLz b z)
 rw [List.length_map,List.length_cons,List.length_cons,bU] at this;exact this
theorem zGz {st:TideSkies.State} (h:HPr st) (k:TideSkies.Call):(TideSkies.step st k).2.nums.length≤16002:=by
 cases k with
 | sky t =>
  show (match Tide.judge t with
   | .error (k,p)=>(st,fault (-6) k p)
   | .ok l=>(some l,says 0)).2.nums.length≤_
  cases Tide.judge t with
  | error f=>exact (show 3≤16002 by decide)
  | ok L=>exact (show 1≤16002 by decide)
 | print =>
  cases st with
  | none=>exact (show 1≤16002 by decide)
  | some L =>
   show (tells 0 [.text (printed L)]).nums.length≤_;rw [rJz]
   have:=(h L rfl).2
   omega
 | size=>cases st <;> exact (show _≤_ from by first | exact (show 1≤16002 by decide) | exact (show 3≤16002 by decide))
 | name i =>
  refine rO (by decide) fun L wl e hw=>?_;rw [rJz]
  have:=(j2z ((h L e).1.ok wl (vI hw).1)).2
  omega
 | find n =>
  cases st with
  | none=>exact (show 1≤16002 by decide)
  | some L =>
   show (match (waves L).findIdx? fun (w:Line)=>w.name == n with
    | none=>says (-4)
    | some i=>says (i:Nat)).nums.length≤_
   cases (waves L).findIdx? fun (w:Line)=>w.name == n <;> exact (show 1≤16002 by decide)
 | speed i=>exact rO (by decide) fun L wl e hw=>(show 3≤16002 by decide)
 | place i t b =>
  refine rO (by decide) fun L wl e hw=>?_;split
  ·exact (show 1≤16002 by decide)
  ·exact (show 3≤16002 by decide)
 | row i t b m =>
  refine rO (by decide) fun L wl e hw=>?_;split
  ·exact (show 1≤16002 by decide)
  ·rename_i hm
   have hm6:m≤256:=Nat.le_of_not_lt fun z=>hm (.inr (.inr (.inl z)));show (0::((List.length _:Nat):Int)::(asInts _++[])).length≤16002;rw [List.append_nil,List.length_cons,List.length_cons];unfold asInts;rw [List.length_map,List.length_map,List.length_range];omega
 | apart i j m =>
  refine rO (by decide) fun L wl e hw=>?_;cases (waves L)[j]? <;> exact (show 1≤16002 by decide)
theorem qGz {d t:List Int} {k:TideSkies.Call} (h:nM d k t):∃u,d=u++t∧0<u.length:=by
 obtain⟨rest,hd,hr⟩:=n2z h;rcases hr with ⟨_,_,row,e,_⟩ | ⟨_,_,e⟩
 ·exact⟨cN k::(cG k++(row.length:Int)::row),by rw [hd,e];simp,by simp⟩
 ·exact⟨cN k::cG k,by rw [hd,e];simp,by simp⟩
theorem oCz.sn {H H':Hp} {c:Addr} {k:TideSkies.Call} {bh:Int} (h:oCz a H c k bh) (s:kC H H'):oCz a H' c k bh:=let ⟨dc,lg,lr,h1,h2,h3⟩:=h;⟨dc,lg,lr,s _ _ h1 (by intro x u z;cases z),s _ _ h2 (by intro x u z;cases z),s _ _ h3 (by intro x u z;cases z)⟩
theorem iL:aI ["calls","holder","told","place","call","answer"] ["calls"] (defScope eFz):=by walk_at "s"
inductive oK (K:W.Frag) (vs:List V) (H:Hp) (Q:VK) (_E:XK):Prop
 | mk (l:Addr) (xs:List Int) (ks:List TideSkies.Call) (_:vs=[.ref l]) (_:SqL K H l (xs.map V.int)) (_:(∀b o,H b=some o→∃x u,o = .frz x u)) (_:xs.length≤16000) (_:(∀z∈xs,z.natAbs≤10 ^ 18)) (_:Calls xs ks) (_:ks.length≤400) (_:∀H' D,H' D=some (.lst ((due none ks).map V.int))→Q (.ref D) H'):oK K vs H Q _E
inductive JA (K:W.Frag) (a:Adr) (H:Hp) (l h D:Addr) (xs:List Int) (ks:List TideSkies.Call) (m:Nat) (σ : L2.St) (H':Hp):Prop
 | mk (p:Nat) (cs:List TideSkies.Call) (st:TideSkies.State) (acc:List Int) (v4 v5:Option V) (_ : σ = [some (.ref l),some (.ref h),some (.ref D),some (.int ((p:Nat):Int)),v4,v5]) (_:p≤xs.length) (_:m=xs.length-p) (_:Calls (xs.drop p) cs) (_:H' D=some (.lst (acc.map V.int))) (_:(∀o,fT a (upd H' D o) h st)) (_:Same H H') (_:acc++due st cs=due none ks) (_:acc.length+16003*cs.length≤16003*400) (_:HPr st):JA K a H l h D xs ks m σ H'
theorem BHz {H H1 H2:Hp} (hO:∀b o,H b=some o→∃x u,o = .frz x u) (s:Same H H1) (k:K3 a H1 H2):Same H H2:=fun b o hb=>by
 obtain⟨x,u,rfl⟩:=hO b o hb;exact k b _ (s _ _ hb) (by intro C dx fs z;cases z)
theorem ok_ofF {x qual:Str} {st:Stmt} {f:Addr} {fd:FuncData} {N ps:List Str} {k:Nat} {sp:Sp} (F:Fun K x qual st f fd) (S:aI N ps (defScope st)) (len:∀vs H Q E,sp vs H Q E→vs.length=ps.length)
  (hbody:∀(cdv:Value) (A:Around) (outer:List Env) (s:Shared) (H:Hp) (vs:List V) (Q:VK) (E:XK),Room k (A.deeper (envOfC qual (defScope st) s.heap.objs.size f cdv))→sp vs H Q E→
   ∃t,PSs (cxOf (CXr P w) P w K mg base N qual (defScope st) f cdv A outer s H E) (defBody st) t∧t {nx:=fun _ H'=>Q .non H',rt:=Q} (start N vs) H):FnOk P w K mg base (CXr P w) (k+1) f fd ps sp:=by
 obtain⟨oc,od,kV,doc,pm,an,cdv,ct,osl,rfl,lk,hcd⟩:=F.ex;exact fn_of lk hcd S len fun A outer s H vs Q E hr hsp=>hbody cdv A outer s H vs Q E hr hsp
theorem uRz {fd:FuncData} (T:Txt K mg a) (hd:Dc a) (he:De a) (F:Fun K "answers" "answers" eFz a.jH fd):FnOk P w K mg base (CXr P w) 17 a.jH fd ["calls"] (oK K):=by
 have AAz := @wOz P w K mg base a T;have qQz := @m0z P w K mg base a T;have wX := @uA P w K mg base a T hd he;refine ok_ofF F iL (fun vs H Q E h=>?_) (fun cdv A outer s H vs Q E hr h=>?_)
 ·obtain⟨l,xs,ks,rfl,_⟩:=h;rfl
 ·obtain⟨l,xs,ks,rfl,hl,hO,hlen,hbd,hcalls,hk4,q⟩:=h
  refine⟨_,(aB (aP (i:=1) iL.nd rfl (Or.inl rfl) (pn0 T.wSz AAz (hr.mono (by decide)) (by rfl) T.zWz passN))
   (aB (aP (i:=2) iL.nd rfl (Or.inl rfl) (dM aD))
   (aB (aP (i:=3) iL.nd rfl (Or.inl rfl) aT)
   (aB (mU PassesOwn.leaving (aY mSz (pv 3) (bH bT (by rfl) T.mX nI (aA (pv 0) aD)) (nomark _))
    (aB (aP (i:=4) iL.nd rfl (Or.inl rfl) (o9z (pc qQz (hr.mono (by decide)) (by rfl) T.p3z passN (aA (pv 0) (aA (pv 3) aD)))))
   (aB (aP (i:=5) iL.nd rfl (Or.inl rfl) (o9z (pc wX (hr.mono (by decide)) (by rfl) T.wF passN (aA (pv 1) (aA (pv 4) aD)))))
   (aB (aU (kP PySem.F.plainAttrs_list PySem.F.slot_list_append PySem.F.type_list_append hJ (pv 2) (aA (bH bT (by rfl) T.mX nI (aA (pv 5) aD)) aD)))
   (aB (aU (kP PySem.F.plainAttrs_list PySem.F.slot_list_extend PySem.F.type_list_extend dZ (pv 2) (aA (pv 5) aD)))
   (aE (aP (i:=3) iL.nd rfl (Or.inl rfl) (aM (pv 4) rfl))))))))
   (aE (aR (pv 2))))))),?_⟩
  refine fun h dh nh ndh hne=>⟨h,dh,rfl,aC,rfl,?_⟩;rw [kJ];dsimp only [gName];have s1:Same H (mkH H h dh a.bJ yO):=dS nh ndh;have hh1:mkH H h dh a.bJ yO h=some (.ins a.bJ dh (fH .non)):=iH;generalize mkH H h dh a.bJ yO=H1 at *;refine⟨Nat.zero_le _,fun D hD=>?_⟩;dsimp only [gName];have hD0:H D=none:=s1.free hD;have hhD:h≠D:=fun z=>by rw [z,hD] at hh1;cases hh1
  refine⟨JA K a H l h D xs ks,⟨xs.length,⟨0,ks,none,[],none,none,rfl,Nat.zero_le _,rfl,hcalls,aC,fun o=>⟨dh,.non,by rw [cE,aO hhD];exact hh1,rfl⟩,bZ s1 hD0,rfl,by show 0+_≤_;omega,fun L z=>by cases z⟩⟩,?_⟩;rintro m σ H2 ⟨p,cs,st,acc,v4,v5,rfl,hp,rfl,hcs,hD2,hHo,s2,hdue,hsz,hpr⟩;refine⟨_,rfl,_,rfl,l,_,rfl,.inl (jGz hl s2),_,_,rfl,rfl,_,rfl,?_⟩;rw [List.length_map]
  by_cases hend:p=xs.length
  ·rw [decide_eq_false (by omega)]
   refine iteF ⟨_,rfl,?_⟩;rw [hend,List.drop_length] at hcs;cases hcs with
   | nil =>
    have e:acc=due none ks:=by rw [← hdue];exact (List.append_nil _).symm
    rw [e] at hD2;exact q H2 D hD2
   | cons hc _=>cases hc
  ·rw [decide_eq_true (by omega)]
   generalize hdr:xs.drop p=dr at hcs;cases hcs with
   | nil =>
    have:=congrArg List.length hdr
    rw [List.length_drop] at this;simp at this;omega
   | cons hcall hrest =>
    rename_i t k cs;obtain⟨u,hu,hu0⟩:=qGz hcall;have hxl:xs.length-p=u.length+t.length:=by
     have:=congrArg List.length hdr
     rw [List.length_drop,hu,List.length_append] at this;exact this
    have hpt:xs.drop (xs.length-t.length)=t:=by
     rw [show xs.length-t.length=p+u.length by omega,← List.drop_drop,hdr,hu,List.drop_left]
    refine iteT ⟨fun σ' H3=>∃m',m'<xs.length-p∧JA K a H l h D xs ks m' σ' H3,fun _ _ z=>z,?_⟩;refine⟨D,_,hD2,trivial,fun od=>?_⟩;have sl:Same H (upd H2 D (.frz od (.lst (acc.map V.int)))):=bZ s2 hD0;refine⟨_,rfl,_,rfl,l,xs,p,k,t,rfl,jGz hl sl,hlen,hbd,hp,by rw [hdr];exact hcall,fun H3 c s3 hC hko=>?_⟩;have hfr3:H3 D=some (.frz od (.lst (acc.map V.int))):=s3 _ _ aC;refine⟨hfr3,?_⟩;dsimp only [gName];have hH3:∀o,fT a (upd H3 D o) h st:=fun o=>((hHo _).same s3).sn (kC.upd hfr3);have hC3:∀o,oCz a (upd H3 D o) c k (((xs.length-t.length:Nat)):Int):=fun o=>hC.sn (kC.upd hfr3);have s03:Same H H3:=sl.trans s3;refine⟨D,_,aC,trivial,fun od2=>?_⟩;rw [cE];refine⟨_,rfl,_,rfl,h,st,c,k,_,rfl,hH3 _,fun L e=>(hpr L e).2,hC3 _,hko,fun H4 D2 hK hDa hH4=>?_⟩;have hfr4:H4 D=some (.frz od2 (.lst (acc.map V.int))):=hK D _ aC (by intro C dx fs z;cases z);refine⟨hfr4,?_⟩;dsimp only [gName];have hnD:D2≠D:=fun z=>by rw [z,hfr4] at hDa;cases hDa
    have hH4':∀o,fT a (upd H4 D o) h (TideSkies.step st k).1:=fun o=>hH4.sn (kC.upd hfr4);have s04:Same H H4:=BHz hO (bZ s03 hD0) hK;obtain⟨dc,lg,lr,c1,_,_⟩:=hC3 (.frz od2 (.lst (acc.map V.int)));have c4:H4 c=some (.ins a.kK dc (sS (.int (cN k)) (.ref lg) (.ref lr) (.int (((xs.length-t.length:Nat)):Int)))):=hK c _ c1 (by intro C dx fs z;cases z;exact⟨hd.cr,hd.cs,hd.ch⟩);have hcD:c≠D:=fun z=>by rw [z,hfr4] at c4;cases c4
    have hnl:=zGz hpr k;rw [List.length_cons] at hsz;generalize hnums:(TideSkies.step st k).2.nums=nums at *;refine⟨_,rfl,.inl ⟨rfl,_,SqL.of aC⟩,_,rfl,D2,_,rfl,.inl (SqL.of (by rw [aO hnD];exact hDa)),D,_,_,rfl,rfl,aC,by rw [List.length_map,sizeLine_eq];omega,?_⟩;rw [cE];refine⟨_,rfl,.inl ⟨rfl,_,SqL.of aC⟩,_,rfl,D,D2,_,_,rfl,rfl,aC,by rw [aO hnD];exact hDa,?_,?_⟩
    ·rw [List.length_append,List.length_map,List.length_map,sizeLine_eq]
     simp only [List.length_singleton];omega
    ·rw [cE]
     refine⟨_,rfl,c,_,dc,_,_,rfl,by rw [aO hcD];exact c4,T.bC,T.yH,hCz _ _ _ _,xs.length-(xs.length-t.length),by omega,⟨xs.length-t.length,cs,(TideSkies.step st k).1,acc++((nums.length:Int)::nums),_,_,rfl,Nat.sub_le _ _,rfl,by rw [hpt];exact hrest,?_,fun o=>by rw [cE];exact hH4' o,bZ s04 hD0,?_,?_,hpr.step hko⟩⟩
     ·rw [aC,List.length_map]
      simp only [List.map_append,List.map_cons,List.append_assoc];rfl
     ·rw [← hdue]
      show _=acc++(let b:=(TideSkies.step st k).2.nums;(b.length:Int)::(b++due (TideSkies.step st k).1 cs));rw [hnums]
      simp
     ·rw [List.length_append,List.length_cons]
      omega
end
end Td
namespace Td
open PySem PySem.Spec PyProof.Rows L2
def FnAt (K:W.Frag) (x q:Str) (st:Stmt) (f:Addr):Prop := ∃fd,Fun K x q st f fd
theorem xUz {K:W.Frag} {x q:Str} {st:Stmt} {f:Addr} {oc:Value} {od an:Option Addr} {osl:Array (Option Value)} {kV doc pm cdv ct:Value} (l:K.lookup f=some ⟨oc,od,.func (W.fnOf x q (defArgs st) (defBody st) (defScope st) .none kV doc pm an cdv ct),osl⟩)
  (c:W.codeIn K cdv q=true) (k:W.keepIn K (.ref f)=true):FnAt K x q st f:=⟨_,fun_mk l c k⟩
theorem wh_mk {K:W.Frag} {f:Addr} {t1 t2 t3 t4 t5 t6 t7 t8 t9:Tok} {od:Option Addr} {n:Nat} {sl:Array (Option Value)} (l:K.lookup f=some ⟨.type "tuple",od,.seq #[.int 0 t1,.int 0 t2,.int 0 t3,.int 1 t4,.int 0 t5,.int 1 t6,.int 3 t7,.int 4 t8,.int 3 t9] n,sl⟩) :
  ∃o its,K.lookup f=some o∧o.cls = .type "tuple"∧(∃n,o.data = .seq its n)∧Vals [.int 0,.int 0,.int 0,.int 1,.int 0,.int 1,.int 3,.int 4,.int 3] its.toList :=
 ⟨_,_,l,rfl,⟨n,rfl⟩,.cons ⟨_,rfl⟩ (.cons ⟨_,rfl⟩ (.cons ⟨_,rfl⟩ (.cons ⟨_,rfl⟩ (.cons ⟨_,rfl⟩ (.cons ⟨_,rfl⟩ (.cons ⟨_,rfl⟩ (.cons ⟨_,rfl⟩ (.cons ⟨_,rfl⟩ .nil))))))))⟩
theorem fin_mk {P:Program} {w:World} {K:W.Frag} {h:Heap} {mg:Str→Option Value} {fa jH:Addr} (_X:K.In h) (_G:h.Ns mainGlobals mg) (hfa:mg "answers" = some (.ref fa)) (T:∃a:Adr,a.jH=jH∧Txt K mg a∧Dc a∧De a) :
  ∃fd:FuncData,(∀(s:Shared) (us:List Value),us.length=(["calls"]:List Str).length→BindsTo s fd ⟨us,[]⟩ ((["calls"]:List Str).zip us))∧∀base:Heap,K.In base→base.Ns mainGlobals mg→FnOk P w K mg base (CXr P w) 17 fa fd ["calls"] (oK K):=by
 obtain⟨a,rfl,T,hd,he⟩:=T;have e:=hfa.symm.trans T.xQz;cases e;obtain⟨fd,F⟩:=T.vHz;have FF:=F;obtain⟨oc,od,kV,doc,pm,an,cdv,ct,osl,rfl,lk,hcd⟩:=F.ex;exact⟨_,fun s us hu=>match us,hu with | [_],_ => .of_eq rfl,fun base _ _=>uRz T hd he FF⟩
theorem fin_S {K:W.Frag} {H:Hp} {l:Addr} {ns:List Int} {Q:VK} {E:XK} (hs:SqL K H l (ns.map V.int)) (hO:uXz H) (hwi:((PySem.W.Codec.inLen 0 16000 ns&&ns.all (PySem.W.Codec.inInt (Int.negSucc 999999999999999999) (Int.ofNat 1000000000000000000)))&&true)=true) (hask:PyWqaccn.answers_asked ns=true)
  (k:∀H' D,H' D=some (.lst ((PyWqaccn.answers ns).map V.int))→Q (.ref D) H'):oK K [.ref l] H Q E:=by
 rw [Bool.and_eq_true,Bool.and_eq_true] at hwi;obtain⟨ks,hk,h4,hd⟩:=Ts.qLz hask;refine⟨l,ns,ks,rfl,hs,fun b o hb=>?_,(PySem.W.Codec.inNat_iff.mp hwi.1.1).2,fun z hz=>?_,hk,h4,fun H' D hD=>k H' D (by rw [hd];exact hD)⟩
 ·rcases hO b with z | ⟨x,u,z⟩
  ·rw [z] at hb;cases hb
  ·rw [z] at hb;exact⟨x,u,(Option.some.inj hb).symm⟩
 ·have:=List.all_eq_true.mp hwi.1.2 z hz
  unfold PySem.W.Codec.inInt at this;rw [Bool.and_eq_true,decide_eq_true_eq,decide_eq_true_eq] at this;have h1:(-1000000000000000000:Int)≤z:=this.1;have h2:z≤(1000000000000000000:Int):=this.2;omega
theorem walk_R {r:PySem.W.OpenSpec} {k:Nat} {q:Program} {loose:List Str} {XP:(Str→Option Value)→Heap→Prop} {YP:World→Heap→Prop} {d:DefRec} {K:Params→W.Frag} {ps:List Str} {sp:W.Frag→Sp}
  (hwell:r.wellSaid=true) (hdf:d.params.defaults=[]) (hlen:r.args.length=ps.length) (hr:Room k callerA)
  (hY:∀(w:World) (h:Heap),YP w h→(K w.params).In h)
  (F:∀(w:World) (mg:Str→Option Value) (fa:Addr) (h:Heap),YP w h→(K w.params).In h→h.Ns mainGlobals mg→mg d.name=some (.ref fa)→
   ∃fd:FuncData,(∀(s:Shared) (us:List Value),us.length=ps.length→BindsTo s fd ⟨us,[]⟩ (ps.zip us))∧
    ∀base:Heap,(K w.params).In base→base.Ns mainGlobals mg→FnOk r.prog w (K w.params) mg base (CXr r.prog w) k fa fd ps (sp (K w.params)))
  (hsp:∀(K:W.Frag) (H:Hp) (xs:List V) (a:PySem.W.Codec.denoteAll r.args),uXz H→PySem.W.Codec.withinAll r.args a=true→PySem.W.Codec.app r.args r.asked a=true→cRz K H xs (PySem.W.Codec.encAll r.args a)→
   sp K xs H (fun v H'=>Dw K H' v (r.ret.enc (PySem.W.Codec.app r.args r.f a))) fun _ _ _=>False) :
  PySem.W.WalkOS q loose XP YP r d [] (fun f vs=>PySem.call f vs) :=
 u9z (K:=K) (CX:=fun w=>CXr r.prog w) (sp:=fun w=>sp (K w.params)) hwell hdf hlen hr hY F (fun w H xs a h1 h2 h3 h4=>hsp (K w.params) H xs a h1 h2 h3 h4) fun _ _ _ _ _ z=>by obtain⟨_,_,_,_,_,_,z⟩:=z;exact z
end Td


namespace Td
open PySem PySem.W PyProof.Rows L2
def pmOf (K:Frag) (f:Addr):Value:=match K.lookup f with
 | some ⟨_,_,.func d,_⟩=>d.pyModule
 | _ => .none
theorem aK {K:Frag} {x q:Str} {st:Stmt} {f:Addr} (l:(K.lookup f,codeIn K (.ref (f-1)) q,keepIn K (.ref f))=(some ⟨.type "function",none,.func (fnOf x q (defArgs st) (defBody st) (defScope st) .none .none .none (pmOf K f) none (.ref (f-1)) .none),#[]⟩,true,true)):FnAt K x q st f:=by
 rw [Prod.mk.injEq,Prod.mk.injEq] at l;exact xUz l.1 l.2.1 l.2.2
def tk:Option (Option Value)→Tok
 | some (some (.str _ t))=>t
 | some (some (.int _ t))=>t
 | _=>0
theorem kS {K:Frag} {h:Heap} {mg:Str→Option Value} {n s:Str} (X:K.In h) (G:h.Ns mainGlobals mg) (e:nsIn K mainGlobals n=some (some (.str s (tk (nsIn K mainGlobals n))))):∃t,mg n=some (.str s t):=⟨_,mg_of X G e⟩
theorem kI {K:Frag} {h:Heap} {mg:Str→Option Value} {n:Str} {i:Int} (X:K.In h) (G:h.Ns mainGlobals mg) (e:nsIn K mainGlobals n=some (some (.int i (tk (nsIn K mainGlobals n))))):∃t,mg n=some (.int i t):=⟨_,mg_of X G e⟩
theorem na {K:Frag} {C:Addr} {n:Str} (h:findIn K (.ref C) n=some none):bF K C n:=h
theorem txtK {P:Params} {h:Heap} {mg:Str→Option Value} (X:(Hd.K P).In h) (G:h.Ns mainGlobals mg):∃a:Adr,a.jH=811∧Txt (Hd.K P) mg a∧Dc a∧De a:=by
 refine⟨⟨185,190,197,204,209,216,223,230,237,244,251,258,265,342,349,356,363,370,377,384,391,398,405,412,419,426,433,440,447,454,461,468,475,482,580,587,592,599,606,611,618,625,632,639,646,653,660,667,672,679,782,811,818,825,832,839,846,31,52,73,94,115,129,142,155,175,331,506,527,548,569,694,771,800,28,49,70,91,112,172,279,286,293,300,307,314,321,328,496,503,524,545,566,691,712,719,726,733,740,747,754,761,768,797,783⟩,rfl,?_,?_,?_⟩
 ·exact⟨mg_of X G (by kernel_rfl),aK (by kernel_rfl),mg_of X G (by kernel_rfl),aK (by kernel_rfl),mg_of X G (by kernel_rfl),aK (by kernel_rfl),mg_of X G (by kernel_rfl),aK (by kernel_rfl),mg_of X G (by kernel_rfl),aK (by kernel_rfl),mg_of X G (by kernel_rfl),aK (by kernel_rfl),mg_of X G (by kernel_rfl),aK (by kernel_rfl),mg_of X G (by kernel_rfl),aK (by kernel_rfl),mg_of X G (by kernel_rfl),aK (by kernel_rfl),mg_of X G (by kernel_rfl),aK (by kernel_rfl),mg_of X G (by kernel_rfl),aK (by kernel_rfl),mg_of X G (by kernel_rfl),aK (by kernel_rfl),mg_of X G (by kernel_rfl),aK (by kernel_rfl),mg_of X G (by kernel_rfl),aK (by kernel_rfl),mg_of X G (by kernel_rfl),aK (by kernel_rfl),mg_of X G (by kernel_rfl),aK (by kernel_rfl),mg_of X G (by kernel_rfl),aK (by kernel_rfl),mg_of X G (by kernel_rfl),aK (by kernel_rfl),mg_of X G (by kernel_rfl),aK (by kernel_rfl),mg_of X G (by kernel_rfl),aK (by kernel_rfl),mg_of X G (by kernel_rfl),aK (by kernel_rfl),mg_of X G (by kernel_rfl),aK (by kernel_rfl),mg_of X G (by kernel_rfl),aK (by kernel_rfl),mg_of X G (by kernel_rfl),aK (by kernel_rfl),mg_of X G (by kernel_rfl),aK (by kernel_rfl),mg_of X G (by kernel_rfl),aK (by kernel_rfl),mg_of X G (by kernel_rfl),aK (by kernel_rfl),mg_of X G (by kernel_rfl),aK (by kernel_rfl),mg_of X G (by kernel_rfl),aK (by kernel_rfl),mg_of X G (by kernel_rfl),aK (by kernel_rfl),mg_of X G (by kernel_rfl),aK (by kernel_rfl),mg_of X G (by kernel_rfl),aK (by kernel_rfl),mg_of X G (by kernel_rfl),aK (by kernel_rfl),mg_of X G (by kernel_rfl),aK (by kernel_rfl),mg_of X G (by kernel_rfl),aK (by kernel_rfl),mg_of X G (by kernel_rfl),aK (by kernel_rfl),mg_of X G (by kernel_rfl),aK (by kernel_rfl),mg_of X G (by kernel_rfl),aK (by kernel_rfl),mg_of X G (by kernel_rfl),aK (by kernel_rfl),mg_of X G (by kernel_rfl),aK (by kernel_rfl),mg_of X G (by kernel_rfl),aK (by kernel_rfl),mg_of X G (by kernel_rfl),aK (by kernel_rfl),mg_of X G (by kernel_rfl),aK (by kernel_rfl),mg_of X G (by kernel_rfl),aK (by kernel_rfl),mg_of X G (by kernel_rfl),aK (by kernel_rfl),mg_of X G (by kernel_rfl),aK (by kernel_rfl),mg_of X G (by kernel_rfl),aK (by kernel_rfl),mg_of X G (by kernel_rfl),aK (by kernel_rfl),mg_of X G (by kernel_rfl),aK (by kernel_rfl),mg_of X G (by kernel_rfl),aK (by kernel_rfl),mg_of X G (by kernel_rfl),aK (by kernel_rfl),mg_of X G (by kernel_rfl),aK (by kernel_rfl),mg_of X G (by kernel_rfl),aK (by kernel_rfl),mg_of X G (by kernel_rfl),aK (by kernel_rfl),mg_of X G (by kernel_rfl),aK (by kernel_rfl),mg_of X G (by kernel_rfl),aK (by kernel_rfl),mg_of X G (by kernel_rfl),aK (by kernel_rfl),mg_of X G (by kernel_rfl),⟨by kernel_rfl,by kernel_rfl,by kernel_rfl,by kernel_rfl⟩,⟨by kernel_rfl,by kernel_rfl,by kernel_rfl,by kernel_rfl⟩,na (by kernel_rfl),na (by kernel_rfl),na (by kernel_rfl),na (by kernel_rfl),mg_of X G (by kernel_rfl),⟨by kernel_rfl,by kernel_rfl,by kernel_rfl,by kernel_rfl⟩,⟨by kernel_rfl,by kernel_rfl,by kernel_rfl,by kernel_rfl⟩,na (by kernel_rfl),na (by kernel_rfl),mg_of X G (by kernel_rfl),⟨by kernel_rfl,by kernel_rfl,by kernel_rfl,by kernel_rfl⟩,⟨by kernel_rfl,by kernel_rfl,by kernel_rfl,by kernel_rfl⟩,na (by kernel_rfl),na (by kernel_rfl),na (by kernel_rfl),na (by kernel_rfl),na (by kernel_rfl),mg_of X G (by kernel_rfl),⟨by kernel_rfl,by kernel_rfl,by kernel_rfl,by kernel_rfl⟩,⟨by kernel_rfl,by kernel_rfl,by kernel_rfl,by kernel_rfl⟩,na (by kernel_rfl),na (by kernel_rfl),na (by kernel_rfl),na (by kernel_rfl),na (by kernel_rfl),na (by kernel_rfl),na (by kernel_rfl),mg_of X G (by kernel_rfl),⟨by kernel_rfl,by kernel_rfl,by kernel_rfl,by kernel_rfl⟩,⟨by kernel_rfl,by kernel_rfl,by kernel_rfl,by kernel_rfl⟩,na (by kernel_rfl),na (by kernel_rfl),na (by kernel_rfl),na (by kernel_rfl),mg_of X G (by kernel_rfl),by kernel_rfl,by kernel_rfl,mg_of X G (by kernel_rfl),by kernel_rfl,by kernel_rfl,mg_of X G (by kernel_rfl),by kernel_rfl,by kernel_rfl,mg_of X G (by kernel_rfl),by kernel_rfl,by kernel_rfl,by kernel_rfl,mg_of X G (by kernel_rfl),⟨by kernel_rfl,by kernel_rfl,by kernel_rfl,by kernel_rfl⟩,⟨by kernel_rfl,by kernel_rfl,by kernel_rfl,by kernel_rfl⟩,na (by kernel_rfl),na (by kernel_rfl),mg_of X G (by kernel_rfl),⟨by kernel_rfl,by kernel_rfl,by kernel_rfl,by kernel_rfl⟩,⟨by kernel_rfl,by kernel_rfl,by kernel_rfl,by kernel_rfl⟩,na (by kernel_rfl),na (by kernel_rfl),mg_of X G (by kernel_rfl),⟨by kernel_rfl,by kernel_rfl,by kernel_rfl,by kernel_rfl⟩,⟨by kernel_rfl,by kernel_rfl,by kernel_rfl,by kernel_rfl⟩,na (by kernel_rfl),na (by kernel_rfl),mg_of X G (by kernel_rfl),⟨by kernel_rfl,by kernel_rfl,by kernel_rfl,by kernel_rfl⟩,⟨by kernel_rfl,by kernel_rfl,by kernel_rfl,by kernel_rfl⟩,na (by kernel_rfl),na (by kernel_rfl),na (by kernel_rfl),mg_of X G (by kernel_rfl),⟨by kernel_rfl,by kernel_rfl,by kernel_rfl,by kernel_rfl⟩,⟨by kernel_rfl,by kernel_rfl,by kernel_rfl,by kernel_rfl⟩,na (by kernel_rfl),na (by kernel_rfl),na (by kernel_rfl),mg_of X G (by kernel_rfl),⟨by kernel_rfl,by kernel_rfl,by kernel_rfl,by kernel_rfl⟩,⟨by kernel_rfl,by kernel_rfl,by kernel_rfl,by kernel_rfl⟩,na (by kernel_rfl),na (by kernel_rfl),na (by kernel_rfl),na (by kernel_rfl),mg_of X G (by kernel_rfl),⟨by kernel_rfl,by kernel_rfl,by kernel_rfl,by kernel_rfl⟩,⟨by kernel_rfl,by kernel_rfl,by kernel_rfl,by kernel_rfl⟩,na (by kernel_rfl),mg_of X G (by kernel_rfl),⟨by kernel_rfl,by kernel_rfl,by kernel_rfl,by kernel_rfl⟩,⟨by kernel_rfl,by kernel_rfl,by kernel_rfl,by kernel_rfl⟩,na (by kernel_rfl),na (by kernel_rfl),na (by kernel_rfl),na (by kernel_rfl),aK (by kernel_rfl),aK (by kernel_rfl),aK (by kernel_rfl),aK (by kernel_rfl),aK (by kernel_rfl),aK (by kernel_rfl),aK (by kernel_rfl),aK (by kernel_rfl),⟨by kernel_rfl,by kernel_rfl,by kernel_rfl⟩,aK (by kernel_rfl),⟨by kernel_rfl,by kernel_rfl,by kernel_rfl⟩,aK (by kernel_rfl),⟨by kernel_rfl,by kernel_rfl,by kernel_rfl⟩,aK (by kernel_rfl),⟨by kernel_rfl,by kernel_rfl,by kernel_rfl⟩,aK (by kernel_rfl),⟨by kernel_rfl,by kernel_rfl,by kernel_rfl⟩,aK (by kernel_rfl),⟨by kernel_rfl,by kernel_rfl,by kernel_rfl⟩,aK (by kernel_rfl),⟨by kernel_rfl,by kernel_rfl,by kernel_rfl⟩,aK (by kernel_rfl),aK (by kernel_rfl),⟨by kernel_rfl,by kernel_rfl,by kernel_rfl⟩,aK (by kernel_rfl),aK (by kernel_rfl),aK (by kernel_rfl),aK (by kernel_rfl),aK (by kernel_rfl),aK (by kernel_rfl),⟨by kernel_rfl,by kernel_rfl,by kernel_rfl⟩,aK (by kernel_rfl),⟨by kernel_rfl,by kernel_rfl,by kernel_rfl⟩,aK (by kernel_rfl),⟨by kernel_rfl,by kernel_rfl,by kernel_rfl⟩,aK (by kernel_rfl),⟨by kernel_rfl,by kernel_rfl,by kernel_rfl⟩,aK (by kernel_rfl),⟨by kernel_rfl,by kernel_rfl,by kernel_rfl⟩,aK (by kernel_rfl),⟨by kernel_rfl,by kernel_rfl,by kernel_rfl⟩,aK (by kernel_rfl),⟨by kernel_rfl,by kernel_rfl,by kernel_rfl⟩,aK (by kernel_rfl),⟨by kernel_rfl,by kernel_rfl,by kernel_rfl⟩,aK (by kernel_rfl),kS X G (by kernel_rfl),kS X G (by kernel_rfl),kS X G (by kernel_rfl),kI X G (by kernel_rfl),kI X G (by kernel_rfl),kI X G (by kernel_rfl),kI X G (by kernel_rfl),kI X G (by kernel_rfl),kI X G (by kernel_rfl),kI X G (by kernel_rfl),kI X G (by kernel_rfl),kI X G (by kernel_rfl),kI X G (by kernel_rfl),kI X G (by kernel_rfl),kI X G (by kernel_rfl),kI X G (by kernel_rfl),kI X G (by kernel_rfl),kI X G (by kernel_rfl),kI X G (by kernel_rfl),kI X G (by kernel_rfl),kI X G (by kernel_rfl),kI X G (by kernel_rfl),kI X G (by kernel_rfl),kI X G (by kernel_rfl),kI X G (by kernel_rfl),kI X G (by kernel_rfl),kI X G (by kernel_rfl),kI X G (by kernel_rfl),kI X G (by kernel_rfl),kI X G (by kernel_rfl),kI X G (by kernel_rfl),kI X G (by kernel_rfl),kI X G (by kernel_rfl),kI X G (by kernel_rfl),kI X G (by kernel_rfl),kI X G (by kernel_rfl),kI X G (by kernel_rfl),kI X G (by kernel_rfl),kI X G (by kernel_rfl),mg_of X G (by kernel_rfl),wh_mk (t1:=1367) (t2:=1368) (t3:=1369) (t4:=1370) (t5:=1371) (t6:=1372) (t7:=1373) (t8:=1374) (t9:=1375) (od:=none) (n:=0) (sl := #[]) (by kernel_rfl),mg_none_of X G (by kernel_rfl),mg_none_of X G (by kernel_rfl),mg_none_of X G (by kernel_rfl),mg_none_of X G (by kernel_rfl),mg_none_of X G (by kernel_rfl),mg_none_of X G (by kernel_rfl),mg_none_of X G (by kernel_rfl),mg_none_of X G (by kernel_rfl),mg_none_of X G (by kernel_rfl),mg_none_of X G (by kernel_rfl)⟩
 all_goals repeat' first | decide | constructor
end Td

open PySem PySem.W PyProof.Rows
set_option linter.all false
set_option hygiene false in
local macro_rules | `(tactic| walk_at "f") => `(tactic| (refine' Td.xUz ?l ?c ?k;(case l=>k_is);(case c=>k_is);(case k=>k_is)))
set_option maxRecDepth 100000
set_option maxHeartbeats 0
theorem PySem.Challenge.cw_tideskies_s01_answers_holds : PySem.Challenge.rw_tideskies_s01_answers.Holds := by
 refine holds_os (q:=Hd.q) (loose:=[]) (Xt:=Hd.Xt) (XP:=XL Hd.q []) (Yf:=fun s=>s.heap) (Ya:=fun w=>Hd.hp w.params) (YP:=fun w h=>(Hd.K w.params).In h) (d:=⟨"answers",L2.defArgs (Td.top 119),L2.defBody (Td.top 119),L2.defScope (Td.top 119),⟨532,0,542,15⟩⟩) (kwd:=[]) (N:=13152) Hd.left (fun w s e=>e ▸ Hd.K_in _) (fun w h h' x k=>Frag.In.keeps x k)
  (fun s e=>xl_of s (Bool.and_eq_true_iff.mp e).1) XL.keeps (by kernel_rfl) (by kernel_rfl) (by kernel_rfl) (fun s e=>recFacts_of (Bool.and_eq_true_iff.mp e).2) os_shapes (by decide +kernel) (by decide +kernel) ⟨rfl,rfl,rfl,rfl,rfl,by decide +kernel⟩ ⟨[.list [.int 2]],by decide +kernel,by decide +kernel⟩ ?_
 refine Td.walk_R (r:=PySem.Challenge.rw_tideskies_s01_answers) (k:=17) (ps:=["calls"]) (sp:=Td.oK) (K:=Hd.K) (by decide +kernel) rfl rfl ⟨rfl,by decide,by decide⟩ (fun w h Y=>Y) ?F ?S
 case F=>exact fun w mg fa h Y KX G hmg=>Td.fin_mk KX G hmg (Td.txtK KX G)
 case S =>
  intro K H xs a hO hwi hask hx;cases hx with
  | cons h1 h2 =>
   cases h2;cases h1 with
   | lst hs ha =>
    have e:=L2.xOz a.1 _ ha;subst e;exact Td.fin_S hs hO hwi hask fun H' D hD => .lst (L2.SqL.of hD) (L2.yCz _)
