import PyProof.Rows.All
import Wide.All
import OpenK.AllK
import Wide.FinOn
import PyProof.EqAt
import PyProof.EqKinds
import PyProof.TupleCall
import KE.BitLaws
import PyProof.ExcInit
import PyProof.InstLoad
import PyProof.InstStoreFacts
import PyProof.StationsW
import PyProof.ExcAttrAll.ValueError
import PyProof.AssignAttr
import KE.KTryMore
import PyProof.DictWalks
import PyProof.WalkInts
import KE.KDictOf
import PySem.Challenge.RW_tablerules_s01_judge
import Open.SpecLaws
import KE.OsHead
import KE.OsGo
import PyWqaqcd
set_option Elab.async false
set_option linter.all false
set_option maxRecDepth 100000
set_option maxHeartbeats 0
macro"e"t:term:tactic=>`(tactic|exact $t)
macro"r"t:term:tactic=>`(tactic|refine $t)
macro"o"p:Lean.Parser.Tactic.rcasesPatMed":="t:term:tactic=>`(tactic|obtain $p:rcasesPatMed:=$t)
macro"h"d:letDecl:tactic=>`(tactic|have $d:letDecl)
macro"s""["a:Lean.Parser.Tactic.simpLemma,*"]"l:(Lean.Parser.Tactic.location)?:tactic=>`(tactic|simp only[$a,*]$[$l:location]?)
macro"%t"i:Lean.Parser.Command.declId s:Lean.Parser.Command.declSig v:Lean.Parser.Command.declVal:command=>`(command|theorem $i:declId $s:declSig $v:declVal)
macro"%d"i:Lean.Parser.Command.declId s:Lean.Parser.Command.optDeclSig v:Lean.Parser.Command.declVal:command=>`(command|def $i:declId $s:optDeclSig $v:declVal)
macro"c"t:term:tactic=>`(tactic|cases $t:term)
macro"u"i:(ppSpace colGt ident)+ l:(Lean.Parser.Tactic.location)?:tactic=>`(tactic|unfold $i* $[$l:location]?)
macro"%w":term=>`(by omega)
macro"%z":term=>`(by decide)
set_option hygiene false
macro "xr" "[" ts:Lean.Parser.Tactic.simpLemma,*"]":tactic=>`(tactic|simp only[Ag,AU,AI,Bz,Tv,sIf,sNx,SD,BI,Jo,AQ,GJ,fV,fC,fUn,Am,fB,nU,Us,fOr,VI,ah,rL,rM,Ad,Aa,fN,AB,Ax,fM0,fM1,fSl,MS,fNo,af,Cg,kf,kg,nR,LW,Sg,LH,ma,A3,F6,N9,rN,B7,me,eT,List.getElem?_cons_zero,List.getElem?_cons_succ,List.set_cons_zero,List.set_cons_succ,List.map_cons,List.map_nil,List.length_cons,List.length_nil,List.cons_append,List.nil_append,List.replicate_succ,List.replicate_zero,Nat.reduceSub,Nat.reduceAdd,Nat.reduceEqDiff,if_true,if_false,asB,oI,oU,Bool.not_true,Bool.not_false,Bool.false_eq_true,reduceIte,AF,$ts,*])
macro "xm" "[" ts:Lean.Parser.Tactic.simpLemma,*"]":tactic=>`(tactic|xr [Yi,Zy,jw,jv,Wi,U8,Wj,Yh,U6,Uj,Ui,U7,$ts,*])
macro "xb" "[" ts:Lean.Parser.Tactic.simpLemma,*"]":tactic=>`(tactic|xm [VH,$ts,*])
notation"%h"=>hr.mono (by decide)
notation"%e"z0:max=>some (.ref z0)
notation"#j"z0:max z5:max=>d_v z0 (pv z5)
notation"%a"=>List O
notation"&R"z0:max=>fC (.int z0)
notation"%i"=>Ac (by omega)
notation"%8N"z0:max z5:max=>Aa (fV z0) z5
notation"%4t"z0:max z5:max=>.ktp [z0,z5]
notation"&Y"z0:max z5:max=>%4t(.int z0)z5
notation"%j"=>False.elim P
notation"%4u"z0:max=>starEach z0 X.env
notation"%5c"z0:max=>Heap.get?_push_of_some _ z0
notation"%1e"z0:max z5:max z6:max z7:max=>Inv z0 pins z5 z6 z7
notation"%Z"z0:max=>.str (S z0)
notation"%g"=>List Word
notation"&D"=>Or.inl rfl
notation"%L"=>Nat.le_refl _
notation"%b"=>some o
notation"&e"z0:max z5:max z6:max=>Ag z0 (Ag z5 z6)
notation"&Z"=>fV 0
notation"%D"z0:max z5:max=>.ok (.ref z0) z5
notation"%G"=>List (Addr×Obj)
notation"%C"z0:max=>fC (.str z0)
notation"%V"z0:max=>some (.lst z0)
notation"%X"z0:max=>AB z0 &Z
notation"#a"z0:max=>List.mem_cons_of_mem _ z0
notation"^a"z0:max z5:max z6:max=>Ab (#jz0 z5) z6
notation"&E"z0:max z5:max z6:max z7:max z8:max=>Ao "Line" z0 z5 z6 (fV z7) z8
notation"#B"z0:max=>eval z0 X.env
notation"%P"=>%eh.length
notation"&f"=>Option Value
notation"&g"=>.ref j
notation"%8O"z0:max z5:max z6:max=>Ae z0 (Ae z5 z6)
notation"%8P"z0:max z5:max=>Aa (&Rz0) z5
notation"%l"=>.dct []
notation"%o"=>List Value
notation"#f"=>.ref r0
notation"%5d"z0:max z5:max=>.ok (.bl z0) z5
notation"&5E"z0:max=>Heap.get?_push_size z0 rfl
notation"&1k"=>oEq false
notation"#b"z0:max=>%8Nz0 Ad
notation"%c"=>List V
notation"^p"z0:max z5:max z6:max=>fB (Am z0 z5 z6)
notation"^R"=>BH (fun _ _ _ _ _=>.bl)
notation"&h"z0:max=>some (nW z0)
notation"%0R"=>wpAny_pure ?_
notation"%S"=>Option Int
notation"%5O"=>Bool.noConfusion (show false=true from p)
notation"#w"z0:max=>Except Fault z0
notation"%Q"z0:max=>Sim.bind z0 ?_
notation"%1Z"z0:max=>Aa z0 Ad
notation"&2A"z0:max=>absurd z0 Bool.false_ne_true
notation"%1f"z0:max z5:max=>.error ⟨z0,z5⟩
notation"&S"z0:max=>.lst (Ai z0)
notation"%U"=>.inl rfl
notation"&5F"z0:max z5:max=>Nat.lt_of_lt_of_le (Heap.lt_size z0) z5
notation"&u"=>List (Key×W)
notation"%0r"=>BH (fun _ _ _ _ _=>.int)
notation"&l"z0:max z5:max z6:max=>^pz0(fV z5)z6
notation"%0E"z0:max=>some (Au z0)
notation"%3a"z0:max=>Nat.lt_of_le_of_lt z0 (by decide)
notation"#G"z0:max z5:max=>sIf z0 z5 sNx
notation"#q"=>Nat.zero_le _
notation"%1g"z0:max z5:max=>%8Nz0(#bz5)
notation"^S"=>.bl (decide (j<i))
notation"%3D"=>List.getElem?_eq_getElem hi
notation"%1h"=>.str "timer"
notation"#C"=>["self"]
notation"%H"=>%ej
notation"#H"=>.ref H.length
notation"%6M"z0:max z5:max z6:max=>AM rfl z0 (#jz5 z6)
notation"&F"=>Option W
notation"%M"=>.lst []
notation"%0s"=>Nat.lt_succ_self _
notation"#M"=>.type "tuple"
notation"#N"=>False.elim P1
notation"&O"z0:max z5:max=>%1eX σ z0 z5
notation"&T"z0:max z5:max=>&Yz0(.ktp [.str z5])
notation"%r"=>List Nat
notation"%3E"z0:max=>some (%Zz0)
notation"%1x"=>%er0
notation"^E"=>.str key
notation"&G"z0:max=>Ar z0 rfl
notation"%u"=>List Str
notation"%v"=>some x
notation"#c"=>.int (i+j)
notation"%p"=>Res W
notation"%5P"=>&2A(show false=true from hs)
notation"%m"=>List W
notation"#g"z0:max=>some (.dct z0)
notation"%s"z0:max=>.ok z0 h
notation"&m"z0:max=>Ab z0 Af
notation"&0d"z0:max z5:max z6:max z7:max=>envOfC z0 z5 s.heap.objs.size z6 z7
notation"%3F"=>nW (a.length+l.length)
notation"%5Q"z0:max z5:max z6:max z7:max=>#Gz0(AQ "Fault" z5 (%8Pz6 z7))
notation"#r"=>.int 0
notation"#x"=>List (Str×Int)
notation"%x"=>some u
notation"%5e"z0:max z5:max=>Ab z0 (&mz5)
notation"%8Q"=>.str "switch"
notation"%N"=>.ref a
notation"%I"=>raw T
notation"%B"z0:max z5:max z6:max z7:max=>&e(AU z0 z5)z6 z7
notation"%y"z0:max z5:max z6:max=>Aw z0 z5 (Ah z6)
notation"&2B"=>spW (a.length,a.length+l.length)
notation"#D"z0:max z5:max z6:max=>oEq false z0 z5 z6
notation"^F"=>False.elim P2
notation"%6N"=>UInt8.ofNat R.signals.length
notation"#O"=>List (Str×Addr)
notation"^G"z0:max z5:max=>some (.frz z0 z5)
notation"%8R"=>.str "expression"
notation"%1i"z0:max z5:max=>PySem.W.keepIn z0 (.ref z5)
notation"&j"=>fV 2
notation"%3G"=>X.env.cells.lookup x
notation"#E"=>List (Key×V)
notation"%W"=>some v
notation"^q"=>.ref (r0+2)
notation"%8S"=>.str "device"
notation"%0b"z0:max=>absurd z0 (by simp)
notation"%6O"=>UInt8.ofNat R.timers.length
notation"%3b"z0:max z5:max z6:max z7:max z8:max=>wpAny (model X.prog X.w) z0 z5 z6 z7 z8
notation"%3c"z0:max=>&OH z0
notation"&p"z0:max z5:max=>BI z0 &Z z5
notation"#d"=>N.mono l
notation"%0S"=>.seq vs.toArray
notation"#V"z0:max=>Aj (A1 z0)
notation"%0t"=>s.heap.get? b
notation"&M"=>fV 1
notation"^b"z0:max=>.inr (.inr z0)
notation"&z"z0:max z5:max=>^az0 z5 Af
notation"%0c"=>.type "list"
notation"%0u"z0:max z5:max=>&l&1k z0 z5
notation"%0F"=>wpAny_bind ?_
notation"%f"=>%3cs
notation"%A"=>CXA g.P g.w
notation"&H"=>List Addr
notation"#P"=>List (κ×V)
notation"^H"=>.ref h.length
notation"%0d"=>.str "mode"
notation"%6P"=>UInt8.ofNat R.mines.length
notation"&q"=>some c
notation"%4v"z0:max z5:max=>absurd z0 (Nat.lt_irrefl z5)
notation"^f"=>isName w.w
notation"#Q"=>h'.get? b
notation"%4w"=>.bl (decide (i<j))
notation"%5R"z0:max=>Nat.le_trans z0 (by decide)
notation"&W"=>&R0
notation"%5S"z0:max=>List.replicate z0 none
notation"%4x"z0:max z5:max z6:max z7:max=>%3bX.A z0 z5 z6 z7
notation"%0e"=>%X"names"
notation"%3H"=>%Zy.R.name
notation"^I"z0:max z5:max=>inClass (top z0) z5
notation"%8T"=>AW _
notation"%4y"z0:max z5:max=>HT.sIx z.length z0 z5
notation"%8U"=>X.env.scope.names.lookup x
notation"%0v"=>Option Addr
notation"%7K"z0:max z5:max=>%5e(&Gz0)z5
notation"%n"=>#j1 1
notation"#s"=>List Bytes
notation"#I"=>.ref 0
notation"#R"z0:max z5:max z6:max z7:max=>AZ z0 z5 z6 z7 %8T
notation"%6Q"=>UInt8.ofNat R.modes.length
notation"%0w"=>.str "signal"
notation"^s"=>["table","line"]
notation"%1y"z0:max z5:max z6:max=>%4xz0 z5 X.xe z6
notation"%0f"z0:max=>some (.int z0)
notation"%5f"=>I.hok.fresh %L
notation"&6T"z0:max z5:max=>cellsFrom (s.heap.objs.size+1) z0 z5
notation"%5g"z0:max=>wpAny_loadPart_at z0 ?_
notation"%0G"=>Array Value
notation"#W"=>h.get? b
notation"^T"=>&R1
notation"%4z"z0:max z5:max=>Am z0 z5 &j
notation"%3I"=>.ref (H.length+1)
notation"%4A"=>List (List Key×V)
notation"&0e"=>.str ""
notation"%3J"z0:max=>some (.tup z0)
notation"%5h"=>wpAny_bind %0R
notation"%4B"=>Array DictEntry
notation"%7L"=>%X"handlers"
notation"&5G"z0:max z5:max z6:max z7:max=>&E"take_word"z0 z5 z6(%1Zz7)
notation"%0x"=>nW s.place
notation"%1z"=>.type "dict"
notation"&0f"=>decide_eq_false (by omega)
notation"%4C"z0:max z5:max z6:max=>attributeBase z0 z5 X.env z6
notation"%1A"z0:max z5:max=>fN z0 (%1Zz5)
notation"^J"=>Cj hr
notation"#k"=>%0Ebs
notation"%4D"=>Heap.lt_size e
notation"&1l"=>s.heap.push PySem.W.emptyDict
notation"&0g"=>decide_eq_true (by omega)
notation"%7M"z0:max z5:max=>absurd z0 (Nat.not_lt_zero z5)
notation"&1m"z0:max=>%5dfalse z0
notation"%0g"z0:max z5:max=>Ce z0 z5 (by simp)
notation"%E"z0:max z5:max z6:max z7:max=>Df g.K z0 z5 z6 z7
notation"%5T"z0:max=>Q z0 {s with heap:=h'}
notation"%1B"=>I.tok _
notation"&J"=>fV 3
notation"^u"z0:max z5:max z6:max z7:max z8:max z9:max y6:max=>post z0 z5 z6 z7 z8 h.length z9 y6
notation"^g"z0:max z5:max z6:max z7:max z8:max=>%8Oz0 z5(%8Oz6 z7 z8)
notation"%T"=>#j0 0
notation"%6R"=>.ref s.heap.objs.size
notation"%6S"z0:max z5:max z6:max z7:max z8:max=>KG z0 PySem.F.slot_list_extend PySem.F.type_list_extend z5 z6 z7 z8
notation"%1C"=>List (Str×V)
notation"&0h"z0:max z5:max=>some ⟨z0,z5⟩
notation"^c"z0:max z5:max=>%4t(nW z0)z5
notation"&1n"z0:max z5:max=>fN z0 (#bz5)
notation"&0i"=>%X"shows"
notation"#l"z0:max=>&Yz0 .non
notation"&0j"z0:max z5:max z6:max z7:max=>.Call (.Name z0 z5) z6 [] z7
notation"%3K"=>.dK kvs
notation"%3L"=>.str "rules"
notation"%3d"=>%4u(e::es)
notation"%6T"=>.builtin id
notation"&0k"z0:max=>wpAny_bind (wpAny_standAt z0)
notation"&1o"=>List.drop_eq_nil_iff.mp hd
notation"%0T"z0:max=>%Dh.length z0
notation"%0h"=>h.get? a
notation"%8V"z0:max=>List.mem_append_right _ z0
notation"%3e"z0:max z5:max z6:max=>OpR z0 (compareOp z5) z6
notation"#t"z0:max=>.ok .non z0
notation"&0l"z0:max z5:max=>.BoolOp z0 z5 pos
notation"%8W"=>cenv.cells.lookup y
notation"#e"=>Ah st
notation"^v"=>Nk .app
notation"&2C"z0:max z5:max=>Nat.ne_of_lt (&5Fz0 z5)
notation"%4E"=>%eH.length
notation"%5i"z0:max=>k.get (by omega) z0
notation"^U"z0:max=>absurd rfl z0
notation"%F"=>#j2 2
notation"#y"=>List α
notation"%0U"=>some .local
notation"^d"=>.ref C
notation"%7N"z0:max z5:max z6:max z7:max z8:max=>KG z0 PySem.F.slot_list_append PySem.F.type_list_append z5 z6 z7 z8
notation"%J"z0:max=>%6Mz0 0 0
notation"%8X"z0:max=>wpAny_bind (wpAny_pure z0)
notation"%5U"z0:max z5:max z6:max z7:max z8:max z9:max=>I.turned (t':=s.toks) z0 z5 z6 z7 z8 z9
notation"%3M"=>Value.ref a
notation"%3N"=>fs.lookup f
notation"&2D"=>.str "variable"
notation"#S"=>nW x.2
notation"^K"=>g.xcl c
notation"%4F"z0:max z5:max z6:max=>AI (fLM z0 z5 z6)
notation"%6U"z0:max z5:max=>Fh H.length z0 z5
notation"%5V"z0:max=>⟨z0,rfl⟩
notation"%3f"=>I.ok.hd hc
notation"%3g"=>%e(r0+2)
notation"%3h"=>closed a.2
notation"%4G"z0:max=>RelV z0 u
notation"%7O"z0:max=>.inr (.inl z0)
notation"%4H"z0:max z5:max=>BN z0 #f z5
notation"&1p"=>&h(a.length+l.length)
notation"%5j"=>ascii "when"
notation"%4I"z0:max=>Vals z0 us
notation"&2E"z0:max=>behindInMarks z0 b
notation"%6V"=>%C"variable"
notation"%6W"z0:max=>[UInt8.ofNat z0]
notation"#u"=>#Be
notation"%8Y"z0:max=>congrArg List.length z0
notation"%4J"z0:max z5:max z6:max z7:max=>&E"take_known"z0 z5 z6(%1Zz7)
notation"&2F"z0:max=>&Oz0 {s with heap:=h',toks:=t'}
notation"%q"=>Lk g mg
notation"#h"=>some C
notation"%7P"=>List (Str×NameKind)
notation"%5k"z0:max z5:max=>PySem.W.isFn z0 (.ref z5)
notation"%5l"=>.str "level"
notation"%3i"=>[&g]
notation"^V"z0:max z5:max z6:max=>upd z0 z5 (.lst z6)
notation"&1q"z0:max z5:max z6:max=>Builtin.Str.strSliceIndices z0 z5 1 z6
notation"^x"=>.int i
notation"%6X"=>s.heap.get? d
notation"%8Z"=>hb (by simp[q'])
notation"%K"z0:max z5:max z6:max z7:max z8:max=>Bc z0 %h xo rfl z5 z6 z7 z8
notation"%5m"=>raw noTable
notation"%9a"=>decide_eq_true q
notation"%5n"=>Option RHad
notation"%6Y"=>lastEmpty y.R
notation"%1j"=>.inr rfl
notation"^W"z0:max z5:max z6:max z7:max z8:max=>RW z0 z5 z6 h.length z7 z8
notation"&4m"=>⟨#[c]⟩
notation"#X"z0:max z5:max z6:max z7:max=>^az0 z5(&zz6 z7)
notation"&N"=>Ak L
notation"&4n"=>List.getElem?_eq_some_iff.mp e
notation"%1D"z0:max=>%8Pz0 Ad
notation"%3O"z0:max z5:max z6:max z7:max=>Ax z0 z5 (%8Nz6 z7)
notation"%0y"=>%Zw
notation"%5o"z0:max=>fC (.ktp z0)
notation"^L"=>&mBu
notation"%0H"=>some .cell
notation"^y"=>List Env
notation"#n"=>.ref e
notation"#J"=>A7 r0 &0e .non
notation"%1k"=>["word"]
notation"#v"z0:max z5:max z6:max z7:max=>Ax z0 z5 (%1gz6 z7)
notation"%O"=>H b
notation"%9b"z0:max z5:max=>PySem.W.findIn z0 ^d z5
notation"&1r"=>scope.names.lookup y
notation"%0i"=>List Expr
notation"&0m"=>some ^E
notation"^z"=>.ref d
notation"&0n"=>sc.names.lookup x
notation"%3P"=>ps.zip us
notation"&2G"z0:max z5:max z6:max=>Heap.get?_update_other z0 z5 (Ne.symm z6)
notation"%3Q"=>.dict #[]
notation"%3R"=>.str "on"
notation"&2H"z0:max=>L.ok z0 (List.mem_cons_self ..)
notation"%3S"=>List (Str×W)
notation"%7Q"=>.ref p
notation"%6Z"z0:max=>some (bW z0)
notation"&1s"=>List (List Key×Addr×Value)
notation"%5p"=>some %3K
notation"^X"z0:max z5:max=>%0uz0(%Cz5)
notation"%5W"=>["rules","line"]
notation"&1t"z0:max=>wpAny_bind (wpAny_bind z0)
notation"&1u"z0:max=>.exc "Fault" (fx z0)
notation"%5X"z0:max=>%V(Ai z0)
notation"&4o"=>List.getElem?_append_left hi
notation"%5Y"z0:max z5:max z6:max z7:max=>&E"take_number"z0 z5 z6 z7
notation"#o"z0:max z5:max=>B8 rfl z0 %T z5
notation"%5q"=>K w.params
notation"%7R"=>padded R.name
notation"&1v"z0:max=>congrArg (fun l=>l[0]?) z0
notation"%9c"z0:max=>kp3.get (by omega) z0
notation"%5Z"=>List (Nat×Nat)
notation"%5r"=>some false
notation"%7a"z0:max z5:max=>HT.sIx xs.length z0 z5
notation"&4p"z0:max=>typeLookup (.type "ValueError") z0
notation"%7S"z0:max=>bW (UInt8.ofNat z0)
notation"&2I"z0:max z5:max=>Fp (fun x:Var×Nat=>x.1.name) z0 z5
notation"%1E"z0:max z5:max=>h.set z0 (&Sz5)
notation"%0j"=>.str a
notation"&A"z0:max z5:max=>Bh z0 (Aj z5) AX
notation"&5H"=>nW ((hd.mode.map fun m=>m+1).getD 0)
notation"%7T"z0:max=>List.replicate k z0
notation"#z"z0:max=>.ok () z0
notation"%4K"=>xs.map nm
notation"&4q"z0:max=>PySem.W.instObj z0 s.heap.objs.size
notation"^h"z0:max z5:max=>Am z0 z5 ^T
notation"#m"z0:max z5:max z6:max z7:max z8:max z9:max=>wpAny (model prog z0) z5 z6 z7 z8 z9
notation"%3T"z0:max z5:max=>.Attribute z0 f z5
notation"%4L"=>%3Ew.w
notation"%0V"=>List Stmt
notation"%1F"z0:max=>%s(.int z0)
notation"%7U"z0:max z5:max z6:max=>swapsWith z0 z5 pos.line z6
notation"&2J"=>%3c{s with heap:=h'}
notation"^l"=>&5E_
notation"&2K"=>Option Expr
notation"%9d"z0:max z5:max=>⟨z0,z5,rfl⟩
notation"&2L"=>.type "BaseException"
notation"%0z"=>some d
notation"%0W"z0:max z5:max z6:max=>%5Qz0 AF z5(%1Zz6)
notation"%3U"=>Bz &J
notation"&2M"=>Qm (by decide+kernel)
notation"%7b"=>acc.map spW
notation"%0I"=>nr _ (by omega)
notation"^m"=>.dct (CG 0 noRules)
notation"%6a"=>rx.mono l2
notation"%3V"=>if_neg q
notation"%3W"=>.dct kvs
notation"#K"z0:max z5:max z6:max z7:max=>Rep g z0 z5 z6 z7
notation"%0A"z0:max z5:max=>^p&1k z0 z5
notation"%6b"z0:max z5:max=>sIx items.size z0 z5
notation"%4M"=>.ref it
notation"&1w"z0:max z5:max=>foldedSetIterable z0 X.env z5
notation"%1G"=>fC .non
notation"^A"=>&1mh
notation"&1x"=>decide_eq_false q
notation"&4r"=>%V((qs0++[q]).map .ref)
notation"%7V"=>List (κ×Value)
notation"%6c"=>some .free
notation"#Y"z0:max z5:max z6:max z7:max z8:max z9:max=>%0Wz0 z5(&E"spot"z6 z7 z8 z9)
notation"%0J"=>.str x
notation"%0K"=>#wα
notation"%3j"z0:max=>%s(.lst z0)
notation"%5s"z0:max z5:max=>["self",z0,z5]
notation"%3X"z0:max z5:max z6:max z7:max=>&E"next_is"z0 z5 z6(%1Zz7)
notation"%4N"z0:max z5:max=>.inr ⟨z0,z5⟩
notation"&5I"z0:max z5:max z6:max=>Heap.get?_update_self z0 z5 (Obj.isFreed_of_fields z6)
notation"&K"z0:max=>%5dz0 h
notation"&0o"z0:max z5:max z6:max=>%4Fz0 z5(%1Zz6)
notation"^M"=>%ec
notation"&2N"z0:max z5:max=>OA z0 z5 (fun _ _ z=>by cases z)
notation"%3Y"=>List WData
notation"&1y"z0:max z5:max=>LA z0 h j pre z5 e
notation"%3Z"z0:max z5:max z6:max z7:max=>%7Kz0(AK L.Ap L.As L.AJ (AL z5) %h z6 L.A9.b z7)
notation"%4O"=>&Ktrue
notation"%0X"=>X.mg x
notation"%7c"=>pure false
notation"%1l"z0:max z5:max z6:max z7:max=>X.blk z0 z5 scope z6 z7
notation"%7W"=>.bool false
notation"%6d"=>.dK vs
notation"%3k"=>some xs
notation"%9e"=>Option &F
notation"%7X"=>.str "mine"
notation"%7Y"=>nW a.length
notation"&2O"z0:max=>⟨z0,a.length+l.length⟩
notation"%7d"=>.int v.at_
notation"%k"z0:max z5:max=>PE X z0 z5
notation"&2P"z0:max z5:max z6:max z7:max=>AZ z0 z5 z6 z7 (by with_unfolding_all rfl)
notation"%6e"=>Sem Value
notation"%9f"=>False.elim z
notation"^Y"z0:max z5:max z6:max z7:max=>.Call (.Attribute z0 z5 apos) z6 [] z7
notation"&4s"=>Str.ofString "__next__"
notation"^Z"z0:max z5:max z6:max z7:max=>Ao "Line" z0 z5 z6 &Z z7
notation"&5J"=>List.getElem?_eq_some_iff.mp q
notation"#F"z0:max z5:max z6:max=>Ag (AU z0 z5) z6
notation"%0B"z0:max z5:max z6:max=>%8Oz0 z5(#Vz6)
notation"%Y"z0:max z5:max=>upd H z0 z5
notation"%0a"z0:max z5:max=>.tup [z0,z5]
notation"%5t"=>Bz &M
notation"%7Z"z0:max=>TG z0 (by decide)
notation"%3l"z0:max z5:max z6:max z7:max=>[%1x,z0,z5,z6,z7]
notation"%4a"z0:max=>[#f,&g,z0]
notation"&0p"=>List (Str×Value)
notation"%8a"z0:max=>&1yz0 l
notation"%1H"z0:max z5:max=>pure (&0hz0 z5)
notation"%3m"z0:max z5:max z6:max=>some (.ins z0 z5 z6)
notation"%1m"=>%4ues
notation"%1n"=>&R32
notation"%1I"z0:max=>&Yz0%8Q
notation"&2Q"z0:max=>&m(%Jz0)
notation"%1J"z0:max=>%s(&Sz0)
notation"%1o"=>.dct (stD sh)
notation"&5K"=>&2A(show false=true from fx)
notation"&1z"=>.inl (by omega)
notation"%3n"=>Au bs
notation"%5u"=>spans bs
notation"&0q"=>%0E(a++l++b)
notation"&5L"=>Cp (nm:=fun x:Bytes×W=>x.1)
notation"%4b"=>Ok .app
notation"&0r"=>padded v.name
notation"%5v"z0:max=>h.set z0 .hole
notation"^B"z0:max=>Az (i:=3) S.nd rfl &D z0
notation"%0k"z0:max z5:max z6:max z7:max=>#Rz0 z5 z6(&Gz7)
notation"%8b"=>.int (i-j)
notation"%8c"=>.str "var"
notation"&2R"z0:max z5:max z6:max=>neH z0 z5 z6 (fun _ _ z=>nomatch z)
notation"%7e"=>V.int p.2
notation"%4c"z0:max=>&1nBM z0
notation"&2S"=>.fn "read_switch"
notation"%9g"=>["names","line"]
notation"%1K"=>%3Ew
notation"%7f"=>ps.map nW
notation"%7g"=>ascii "!"
notation"&2T"=>sa0 (by simp[A7])
notation"&k"=>%8ab
notation"%1L"=>List Int
notation"%9h"z0:max=>["rules","line",z0]
notation"%6f"=>[#I,&g]
notation"&2U"z0:max=>pure (ForInStep.yield z0)
notation"%3o"z0:max z5:max=>PySem.W.exmOne g.K (.ref z0) (.ref z5)
notation"&2V"=>.fn "read_device"
notation"&1A"=>bootBuiltins x
notation"&0s"z0:max=>&0lz0(a::b::rest)
notation"%4P"z0:max=>.cons z0 .nil
notation"%6g"z0:max z5:max=>Eo ^J z0 z5
notation"&1B"=>ascii "closed"
notation"%4Q"=>%5Xacc
notation"&0t"=>wpAny_pure h
notation"&2W"z0:max=>pushCells z0 scope.names
notation"&0u"=>.int (i:Nat)
notation"&1C"z0:max=>Nat.le_add_right _ z0
notation"&0v"=>ys.map V.str
notation"%3p"z0:max z5:max z6:max z7:max z8:max=>&ez0 z5(&ez6 z7 z8)
notation"%3q"z0:max=>Sim.st z0 ?_
notation"&0w"=>&ha.length
notation"&0x"=>.str "fired"
notation"&1D"=>List ExceptHandler
notation"%1M"=>pure x
notation"&2X"=>.ref (h.length+1)
notation"&Q"=>H a
notation"%0L"=>%4Gy
notation"%0M"=>#Bo
notation"%0N"=>%e0
notation"&4t"z0:max=>Q z0 {s with toks:=s.toks+1}
notation"&5M"=>Builtin.Tuple.tupleExact _
notation"%0l"=>fV 4
notation"&4u"z0:max=>h z0 (List.mem_cons_self ..)
notation"%9i"z0:max=>T1 z0 (by decide)
notation"%9j"z0:max=>%4H"handlers"z0
notation"%3r"=>Hj H.length sh
notation"%9k"=>.str &4m
notation"&5N"z0:max=>wpAny_newObj_type z0 (by size_fits)
notation"%8d"=>[%0y]
notation"%1N"z0:max z5:max=>Fb z0 (.inr z5)
notation"#T"z0:max z5:max=>CT SP z0 z5
notation"%0Y"z0:max z5:max z6:max=>Binds X.K z0 z5 z6
notation"%0O"z0:max z5:max=>#Gz0(Bz z5)
notation"%4d"z0:max=>&Yz0%8S
notation"%4R"z0:max z5:max z6:max z7:max z8:max=>LA z0 z5 z6 (pre++[w]) z7 z8
notation"%8e"=>some none
notation"&2Y"z0:max=>%Ys.heap.objs.size z0
notation"&1E"=>False.elim hq
notation"%9l"=>if_pos rfl
notation"%9m"=>%C"loop"
notation"&5O"=>vs.toArray.toList.map toV
notation"%0m"z0:max=>Az (i:=2) S.nd rfl &D z0
notation"%7h"z0:max=>[%1x,%H,z0]
notation"%8f"=>List (κ×W)
notation"%9n"=>List (FE×FE)
notation"%6h"=>%7h&0m
notation"%3s"=>.ref x
notation"%8g"=>pure none
notation"%4e"=>%4Ixs
notation"^N"z0:max z5:max=>Q (.bl z0) z5
notation"%4f"=>.int j
notation"&4v"=>I1.hok.fresh %L
notation"&0y"=>K.In s.heap
notation"%7i"=>if_pos q
notation"%4g"=>some y
notation"%4h"=>Res α
notation"%7j"=>Ip false
notation"&2Z"=>.fn "read_head"
notation"%7k"=>%JL.DP
notation"&0z"=>%0f(i:Int)
notation"&0A"=>.str "held"
notation"&0B"=>G.ob.ga rfl
notation"%4i"z0:max=>⟨rfl,z0⟩
notation"&5P"=>Value.ref h₁.objs.size
notation"&5Q"=>%5S(N.length-xs.length)
notation"%1O"z0:max=>%s(nW z0)
notation"&5R"=>List.getElem?_eq_none hi
notation"&5S"=>AC.find? (fun x=>x.1==w)
notation"%1p"=>%4Gv
notation"%1q"=>%4c0
notation"&0C"z0:max z5:max=>%4zz0(fC z5)
notation"&4w"=>Oe (by kernel_rfl)
notation"&4x"=>List.mem_map.mp hx
notation"%1r"=>%Zs
notation"&I"=>#j3 3
notation"&1F"=>List (Bytes×W)
notation"&3a"=>.fn "read_lamp"
notation"&0D"=>.ref (r0+1)
notation"%3t"z0:max z5:max=>some (XD z0 z5)
notation"#A"z0:max z5:max z6:max z7:max z8:max=>wpAny z0 z5 z6 z7 z8 s
notation"%9o"z0:max=>backTo pos (%4uz0)
notation"&3b"z0:max=>OPS.getD z0 []
notation"%7l"z0:max=>%4H"names"z0
notation"%6i"=>model X.prog X.w
notation"%7m"z0:max z5:max z6:max z7:max=>A.deeper (&0dz0 z5 z6 z7)
notation"&1G"=>False.elim q
notation"&0E"=>.dT kvs
notation"&5T"=>List.mem_of_getElem? e1
notation"&0F"z0:max z5:max z6:max z7:max=>s.heap.IsKeyIter z0 z5 z6 z7 ep
notation"&1H"=>.int (i:Int)
notation"&r"z0:max z5:max=>GV g mg z0 (.int z5)
notation"&5U"=>Nat.le_succ_of_le K.nla
notation"&1I"=>Au (a++l++b)
notation"%9p"=>[#r]
notation"%7n"z0:max z5:max=>%3lz0 z5 none none
notation"%9q"=>[#f,&g]
notation"&1J"z0:max=>.seq its.toArray z0
notation"&3c"=>%X"switches"
notation"%9r"z0:max z5:max=>.Subscript z0 z5 pos
notation"%9s"=>rel.val k
notation"%5w"=>%1D0
notation"%3u"z0:max=>AB z0 &M
notation"%8h"z0:max z5:max z6:max=>%E"__init__"z0 z5 z6
notation"%9t"=>isDigit c
notation"%1P"=>%1f3 w.at_
notation"%6j"z0:max=>%D(r0+2)z0
notation"%8i"=>Option V
notation"%0n"=>tl y
notation"&C"=>#KF m h H
notation"%R"z0:max z5:max=>DE g E X z0 z5
notation"%4S"z0:max=>%Rz0 fa
notation"%1Q"=>.dict es ep
notation"&3d"=>List (Key×Value)
notation"#Z"=>%4Sa
notation"%7o"z0:max=>lo (by omega) (by omega) (by omega) z0
notation"&0G"=>List Keyword
notation"%7p"=>List Key
notation"&3e"=>.fn "read_coil"
notation"%9u"=>[&g,^z]
notation"&5V"=>Nat.le_succ_of_le K.nco
notation"%6k"=>.ref st
notation"%9v"=>.int (-i)
notation"%8j"=>r.bind k
notation"%0o"=>m j'
notation"&0H"=>%C"mode"
notation"%1s"z0:max z5:max=>Aa z0 (#bz5)
notation"&4y"z0:max z5:max z6:max=>wpAny_bind (wpAny_seqItems z0 z5 z6)
notation"&0I"=>vs.map toV
notation"&0J"=>Option Had
notation"&0K"=>ascii "do"
notation"^n"z0:max=>.ok z0 h1
notation"%4j"z0:max z5:max=>&0oz0&M z5
notation"%0P"z0:max z5:max z6:max=>Et z0 (tgN z5) z6
notation"%4k"z0:max z5:max=>%8Nz0(%1Zz5)
notation"%4l"z0:max z5:max=>%5ez0(&Gz5)
notation"&1K"=>L1.FZ %0I
notation"%8k"z0:max=>some (.own z0)
notation"%9w"z0:max=>.dct (pairD z0)
notation"&3f"=>.type "range"
notation"%0C"=>H' b
notation"&1L"=>frs X.stack
notation"%5x"=>%9oes
notation"%5y"=>hf it (by simp)
notation"%3v"=>model prog w
notation"&5W"=>List.nodup_cons.mp nd
notation"&5X"=>PySem.mem_of_lookup e
notation"&5Y"=>tupleKind_room_in1 hu
notation"%0D"=>tl x
notation"&5Z"=>Builtin.Str.strKind y
notation"&3g"=>s.heap.get? c
notation"%3w"=>Au tb
notation"&6a"=>%5V(by simpa using z)
notation"&4z"z0:max=>Nat.le_trans I.ok.bsz z0
notation"&1M"z0:max=>Loc X.env.scope z0
notation"%7q"z0:max=>.Name x z0
notation"&1N"z0:max=>&6Tscope.names z0
notation"&1O"z0:max=>pl z0 (by decide) (by rw[hw];rfl)
notation"&0L"=>%4a^E
notation"&0M"z0:max=>&0lz0(b::rest)
notation"&6b"z0:max=>BP CH CK rfl L.Cw PySem.boot_len z0
notation"%9x"=>["self","word"]
notation"%0Z"=>hb _ L.ge
notation"&3h"=>List (Str×Nat)
notation"&3i"=>.fn "read_kick"
notation"&6c"=>Nat.le_succ_of_le K.nsw
notation"^e"z0:max z5:max z6:max z7:max=>RWs z0 z5 z6 z7 xs vs
notation"&3j"z0:max z5:max z6:max z7:max=>wpAny_bind (wpAny_field z0 z5 z6 z7)
notation"&6d"=>.type "StopIteration"
notation"&4A"=>some h.objs.size
notation"%1R"z0:max z5:max=>Aa z0 (%1Zz5)
notation"%4T"z0:max z5:max z6:max=>#D(nW z0)(.int z5)z6
notation"&3k"=>typeOf %6T
notation"%1a"z0:max z5:max z6:max=>Bh z0 (#Vz5) z6
notation"&4B"=>hc (by simp[z])
notation"&3l"z0:max z5:max=>Heap.SameBut z0 s.heap z5
notation"%9y"=>rawInt L
notation"^O"z0:max=>.ok z0 h'
notation"&0N"=>oIs false
notation"%8l"z0:max=>%1ABM z0
notation"%7r"z0:max z5:max=>&1u⟨z0,z5⟩
notation"%7s"z0:max z5:max=>holds z0 z5 x.1.2
notation"%9z"=>isName n
notation"%4m"=>Au rl
notation"%6l"=>.inl q
notation"%7t"z0:max z5:max z6:max=>.Compare z0 z5 z6 pos
notation"%9A"z0:max z5:max z6:max=>OpR z0 (binaryOp z5) z6
notation"%6m"=>K.In h
notation"&0O"z0:max=>.cons h z0
notation"%4U"z0:max=>fN oLst z0
notation"%6n"z0:max=>&Yz0%1h
notation"%6o"z0:max=>W.str (S z0)
notation"%6p"z0:max=>#Tz0%I
notation"&3m"=>ascii "left"
notation"&1P"=>Ne.symm hj
notation"%1b"=>kV k
notation"%3x"z0:max z5:max=>Am oIx z0 z5
notation"&1Q"=>%9h"sort"
notation"&1R"=>K.lookup b
notation"&1S"=>RS7.take 1
notation"%8m"=>%8l&0i
notation"%3y"z0:max z5:max=>&6b(&zz0 z5)
notation"%5z"=>.dct (R7 r0)
notation"&1T"=>some %W
notation"%7u"z0:max z5:max z6:max=>^ez0 z5 z6 h.length
notation"%6q"z0:max=>%y#C#C z0
notation"%6r"=>.int 1
notation"%6s"z0:max=>%3xz0&W
notation"&6e"=>.type "dict_values"
notation"&1U"=>ascii "in"
notation"%6t"=>some k
notation"%6u"z0:max=>&6b(&2Qz0)
notation"&1V"z0:max=>&2Cz0 I.ok.above
notation"%6v"z0:max z5:max z6:max=>k z0 (by simp) z5 z6
notation"%1S"z0:max=>Q %7Q z0
notation"%1c"z0:max z5:max z6:max z7:max z8:max=>%3Oz0 z5 z6(%1gz7 z8)
notation"%8n"z0:max z5:max z6:max z7:max=>&E"has_more"z0 z5 z6 z7
notation"%8o"z0:max=>σ.set i z0
notation"&3n"=>Array &f
notation"&4C"=>.builtin "len"
notation"%4V"=>Fg st
notation"&1W"z0:max=>τ.set i z0
notation"#L"z0:max z5:max=>wF g z0 z5
notation"%9B"=>gE 12
notation"&3o"z0:max=>%D(H.length+1)z0
notation"&4D"=>QO (z:=.hole)
notation"%4W"=>Au bk
notation"&4E"z0:max=>base.Ns mainGlobals z0
notation"%1t"=>RW g
notation"%4n"z0:max z5:max z6:max=>%3Zz0 z5 z6%n
notation"&6f"=>fitsInt (-(n:Int))
notation"%1u"=>vl x
notation"&4F"z0:max=>h6.set (H.length+1) z0
notation"&3p"=>fs.lookup m
notation"&4G"=>A.under (.builtin "type.__call__" ⟨.ref C::us,kw⟩)
notation"&3q"=>List (V×V)
notation"&3r"=>lw.trans l4
notation"&3s"=>.str "show"
notation"%8p"z0:max=>&Tz0"lamp"
notation"%7v"=>.ref z
notation"&1X"=>[%3n]
notation"%7w"=>spO bs
notation"&3t"=>sortI w.1.w
notation"%5A"z0:max z5:max=>^cz0(.ktp [.str z5])
notation"&0P"=>h.get? C
notation"&0Q"=>nW a.1.1
notation"&0R"=>l.map bW
notation"&4H"=>X.base.get? b
notation"%5B"=>#Ba
notation"%9C"=>%7qpos
notation"%8q"z0:max z5:max=>.Constant z0 j z5
notation"%9D"=>.lst xs
notation"%0p"=>wordsFrom a.length [] l
notation"%6w"=>some q
notation"&4I"z0:max z5:max z6:max z7:max=>wpAny_bind (wpAny_setField z0 z5 z6 z7)
notation"%7x"=>%4zBf(%X"counts")
notation"%8r"z0:max=>&Tz0"mode"
notation"&3u"=>.str "coil"
notation"%7y"=>.ref 2
notation"&0S"=>&1Wnone
notation"%4o"z0:max z5:max=>Q (.int z0) z5
notation"%5C"=>%5ce
notation"%8s"=>eqU x
notation"&1Y"=>List Bool
notation"%9E"=>g.cls c
notation"&6g"=>.fields #[.ref d]
notation"%1T"=>A2 L
notation"^C"=>b i
notation"%5D"=>%Zn
notation"%8t"=>nm x
notation"%1d"z0:max z5:max=>known e z0 z5
notation"&1Z"=>intOf w.w
notation"&2a"=>ss.take 1
notation"&6h"=>ts.contains a.1.w
notation"%4p"z0:max z5:max=>BN z0 #I z5
notation"&6i"z0:max z5:max z6:max=>congrArg z0 (List.zipIdx_map_fst z5 z6)
notation"%5E"=>%6Zc
notation"%5F"=>RK' R
notation"&2b"=>if_neg q4
notation"&4J"=>CS (by omega)
notation"&6j"=>ns.flatMap padded
notation"&4K"z0:max=>wpAny_passesOwn hp z0
notation"&6k"z0:max=>wpAny_newObj_type z0 htake
notation"&3v"=>pure (.type "method_descriptor")
notation"&3w"=>.inr %U
notation"&0T"z0:max=>G.kp z0 hmj
notation"#i"z0:max z5:max=>%1yz0 z5 s
notation"%8u"=>%4Ivs
notation"&3x"=>Option Nat
notation"&3y"=>Dk X.env.cells scope.names []
notation"%8v"=>.dK []
notation"&3z"=>Or.inr rfl
notation"%8w"=>Res β
notation"%9F"z0:max=>%s(.tup z0)
notation"%8x"=>.inl z
notation"&6l"=>its.toArray.any %8s
notation"&2c"=>some .hole
notation"%7z"=>#Th'(raw T')
notation"&3A"=>.ref (r0+4)
notation"&4L"=>List (TE×TE)
notation"&6m"z0:max z5:max z6:max=>wpAny_bind (wpAny_dictEntries z0 z5 z6)
notation"%9G"=>.int 64
notation"&3B"z0:max z5:max=>s.heap.push (zkI z0 es.size z5)
notation"&2d"=>if_neg q1
notation"&4M"=>some xs.length
notation"&3C"=>.ref (r0+9)
notation"&3D"=>List &2K
notation"&3E"=>.fields vs
notation"%3z"=>Er R
notation"&3F"=>le32 v.at_
notation"%8y"=>%0Ebk
notation"&6n"z0:max=>List.mem_append_left _ z0
notation"%6x"=>%5V_
notation"%6y"=>%5cq
notation"&2e"z0:max=>^God z0
notation"&6o"z0:max=>wpAny_isSubtype_exc z0 ?_
notation"&4N"=>%X"starts"
notation"%6z"z0:max z5:max=>&0Cz0(.kd z5)
notation"%6A"z0:max z5:max=>%8Pz0(%1Dz5)
notation"&4O"=>False.elim x
notation"&0U"=>S %8t
notation"&4P"=>.inl (p:Int)
notation"%6B"=>&hs
notation"&3G"z0:max z5:max z6:max z7:max=>linesIn z0 (bs.length+1) z5 z6 z7
notation"%8z"z0:max=>%6gz0%F
notation"%4X"z0:max z5:max=>PW.pt (FX z0 (Fe z5))
notation"&0V"z0:max=>.ins "Book" z0
notation"%9H"z0:max=>%D(r0+9)z0
notation"&6p"=>AllBare s'.gens
notation"%6C"z0:max z5:max z6:max z7:max=>⟨z0,z5,%1B,z6,z7⟩
notation"%0q"=>H p
notation"&2f"=>Sem Bool
notation"&6q"=>Option NameKind
notation"%6D"z0:max=>backTo cpos (%4uz0)
notation"%6E"z0:max z5:max=>compEnvC scope z0 z5 X.env
notation"&6r"z0:max z5:max z6:max=>wpAny_bind (wpAny_dictEpoch z0 z5 z6)
notation"&3H"=>wpAny_bind (wpAny_typeNameOfWhole_keyiter hit.typeIs %0R)
notation"&6s"z0:max z5:max=>PySem.StrLaws.sliceText z z0 z5
notation"%9I"z0:max z5:max=>#z(h.set z0 z5)
notation"&3I"=>%8l%7L
notation"%9J"z0:max z5:max z6:max z7:max=>&E"take_new"z0 z5 z6 z7
notation"&3J"=>%4t&2D%8R
notation"&4Q"=>W.str ⟨#[sg c]⟩
notation"&2g"=>isName w
notation"&6t"=>numberOf (c::r)
notation"&3K"=>%8a%9B
notation"%4q"=>Dm b
notation"&6u"=>kp1.trans s2.kp
notation"&6v"=>hd.deeds.map dW
notation"%3A"=>%Rb fb
notation"&0W"=>&2e%6d
notation"&2h"=>%3J(k.map kV)
notation"%9K"=>D3 (k+1) X.A
notation"%9L"=>some x0
notation"&2i"=>&2e(.dK ds)
notation"%9M"=>some x1
notation"%8A"=>.ref q
notation"%6F"=>start N vs
notation"&4R"=>List Handler
notation"&3L"z0:max=>%5c(%5cz0)
notation"&3M"=>wpAny_bind (wpAny_typeNameOf_keyiter hit.typeIs %0R)
notation"&3N"=>%4t%1h%8R
notation"&0X"z0:max=>%kz0 ta
notation"&6w"z0:max=>s.heap.FunFrames base z0
notation"&6x"z0:max=>wipe z0 (own.map (·.2))
notation"&2j"z0:max=>%4yz.length z0
notation"&2k"z0:max=>%DH.length z0
notation"&2l"z0:max=>g (by omega) z0
notation"%9N"=>.inl h
notation"&3O"=>h'.get? e
notation"%9O"=>X.fn x
notation"%7A"=>.bl b
notation"%9P"z0:max z5:max=>holding [z0] z5
notation"%9Q"=>%Vxs
notation"%9R"=>⟨us,[]⟩
notation"&3P"z0:max z5:max z6:max=>wpAny_pure ⟨z0,z5,z6⟩
notation"%7B"=>&0Or
notation"&4S"=>%X"taken"
notation"&4T"=>.str "lamp"
notation"&3Q"=>&R65536
notation"&3R"=>isSmall c
notation"&4U"=>if_pos this
notation"&4V"=>s1.trans s2
notation"%7C"=>&he
notation"&4W"=>[nW x.place]
notation"%7D"=>%6U(H.length+2)0
notation"&3S"=>R.varOf n
notation"&3T"=>&3bo.val
notation"%7E"=>Ai []
notation"&3U"=>&0Ts1.kp
notation"^o"=>Tok n T
notation"%7F"=>nmD r0 sh
notation"%9S"=>.dct %7F
notation"&3V"=>some %0d
notation"%6G"=>&0Xa
notation"%9T"=>.ref f
notation"&4X"=>List (W×W)
notation"&4Y"=>%X"lamps"
notation"&4Z"=>.str "kick"
notation"&2m"=>["name"]
notation"&5a"=>R.varOf w.w
notation"&5b"z0:max=>assignEach z0 X.env
notation"&6y"=>n (by simp[z])
notation"%5G"z0:max z5:max z6:max z7:max z8:max=>RN z0 z5 z6 h.length z7 z8
notation"%4Y"=>RN g
notation"&5c"z0:max=>&Tz0"expression"
notation"%5H"z0:max z5:max z6:max=>#Rz0 z5%F z6
notation"%7G"z0:max=>#g(M0 z0)
notation"%8B"z0:max z5:max=>.ins "Rules" (A7 r0 z0 z5)
notation"&6z"z0:max=>Obj.data_mapFields z0 _
notation"&2n"z0:max z5:max=>ss.drop (max z0 z5)
notation"&2o"z0:max z5:max=>h3.set z0 (.dct z5)
notation"&6A"z0:max=>le z0 R.handlers.length
notation"%4Z"=>%9drfl rfl
notation"%3B"=>KV kvs vs
notation"%5a"=>.exc c fs
notation"%8C"=>Tok (n+1) T'
notation"&0Y"=>some od
notation"%9U"=>some z
notation"%9V"=>.ref l
notation"&5d"=>%X"coils"
notation"&3W"=>R.varOf w
notation"&3X"=>["rules"]
notation"&5e"=>.str ⟨#[sg c]⟩
notation"%6H"z0:max z5:max z6:max=>&0jz0 z5 z6 pos
notation"&2p"z0:max z5:max z6:max=>.ListComp z0 z5 scope z6
notation"%1v"z0:max z5:max z6:max z7:max=>⟨z0,z5,z6,z7,os⟩
notation"&3Y"z0:max=>RWs.unlock hF z0
notation"%4r"z0:max z5:max z6:max=>Ax z0 z5 (%1Zz6)
notation"%4s"z0:max z5:max z6:max=>%8Oz0 z5(Aj z6)
notation"&3Z"z0:max=>nl (by omega) z0
notation"&5f"=>K.lookup a
notation"&2q"=>mA name
notation"%7H"z0:max z5:max=>backToKw z0 (keywordEach z5 X.env)
notation"&6B"z0:max z5:max z6:max z7:max z8:max=>PySem.W.callWith_K (h₀:=X.base) z0 z5 z6 z7 z8
notation"&5g"=>h1.trans z
notation"&0Z"z0:max=>pre z0 (c::r)
notation"&5h"=>l.trans l2
notation"%8D"=>%sv
notation"&2r"=>keyOf y
notation"%8E"=>%7Oz
notation"%1U"z0:max z5:max z6:max z7:max=>AI (&5Gz0 z5 z6(%Cz7))
notation"&2s"=>.ktp []
notation"&6C"=>["self","setting"]
notation"%8F"=>LD Af
notation"&2t"=>%Zw.w
notation"&2u"=>ascii s
notation"%7I"z0:max z5:max=>newName e z0 z5
notation"&6D"=>ps.contains p
notation"&5i"=>SRT.take 1
notation"&5j"=>Rx (b:=0)
notation"%8G"z0:max z5:max z6:max z7:max=>.inr ⟨z0,z5,z6,z7⟩
notation"%5I"z0:max=>.cons r z0
notation"&1a"=>%3Jxs
notation"&5k"z0:max=>Vis X.env.scope z0
notation"&1b"=>&2Eop
notation"%5J"z0:max=>D.nx σ z0
notation"&6E"=>pyNext %4M
notation"&4a"=>&p"steps"&W
notation"%5K"=>RelV x v
notation"%9W"=>Vals xs its
notation"%9X"=>.ref b
notation"%9Y"=>some n
notation"%6I"z0:max z5:max=>P F m H z0 .refl R z5
notation"%5b"z0:max=>%6I_ z0
notation"%5L"=>%5b.bl
notation"%7J"=>%5b.int
notation"&4b"=>some h[i]
notation"&6F"=>[("number",n)]
notation"&6G"=>%X"actions"
notation"&2v"=>.ref i1
notation"&4c"=>P.zip vs
notation"&1c"=>.str z
notation"&4d"=>.error e
notation"&4e"=>&4pname
notation"%1V"z0:max=>.nx σ z0
notation"&1d"=>Ju kvs
notation"&4f"=>.bl true
notation"^D"z0:max=>#L2 z0
notation"%1W"z0:max z5:max z6:max z7:max=>AK L.Ap L.As z0 z5 %h xo z6 z7
notation"&2w"z0:max=>%1fz0 x.1.at_
notation"&1e"=>hi rfl
notation"&5l"=>%8o%W
notation"&4g"z0:max z5:max z6:max z7:max=>wpAny_call_entry z0 z5 z6 ?_ z7
notation"&5m"z0:max z5:max z6:max z7:max=>wpAny_typeLookup_exc hC z0 z5 z6 z7
notation"&6H"z0:max=>⟨fun _ _ z=>z,Nat.le_of_eq z0,fun _ _=>rfl⟩
notation"&5n"=>%4U%5w
notation"%8H"z0:max=>iT (%5oz0)
notation"%8I"z0:max=>II (&mz0)
notation"&5o"=>[^q,&g]
notation"&5p"=>%7n%H%1K
notation"&2x"=>%5s"kind""place"
notation"&5q"=>some %v
notation"%8J"z0:max z5:max z6:max=>DA z0 z5 Lamp.name z6 T.lamps
notation"&6I"=>%X"devices"
notation"&2y"=>.ref sh
notation"%5M"z0:max=>%4u[z0]
notation"&2z"z0:max=>%5s"known"z0
notation"%5N"z0:max=>Az (i:=4) S.nd rfl &D z0
notation"&5r"=>cellsFrom (s3.heap.objs.size+1) scope.names &3y
notation"&5s"=>&p"lamps"%0l
notation"&5t"=>%7n%H%4L
notation"&6J"=>X.mg "range"
notation"&6K"=>ns.map V.int
notation"&5u"z0:max=>X.A.mark (%ez0)
notation"&6L"=>⟨fun _ _ z=>z,by simp,fun _ _=>rfl⟩
notation"&6M"=>m2 h1.length
notation"%6J"z0:max z5:max=>Am z0 &Z z5
notation"&6N"=>%C"signal"
notation"&6O"=>.str "table"
notation"^P"z0:max=>#L1 z0
notation"%0Q"z0:max z5:max=>LF rfl z0 z5
notation"%6K"z0:max z5:max z6:max=>%1Wz0 z5 z6%n
notation"%6L"=>nW p
notation"&6P"z0:max z5:max=>List.all_eq_true.mp z0 z5 hq
notation"&6Q"=>G3.ob.ga rfl
notation"^Q"=>Gx j h1
notation"%1w"=>fN El Ad
notation"&5v"=>some &0E
notation"&1f"=>.ref D
notation"&4h"=>fN oTup Ad
notation"&5w"=>some &2B
notation"&4i"=>["text"]
notation"&5x"=>some (k,v)
notation"&5y"=>h'.get? a
notation"&1g"z0:max z5:max=>.Assign z0 z5 pos
notation"&5z"=>I.list hq
notation"&1h"z0:max z5:max=>%6Hz0 z5(e::es)
notation"%9Z"=>%eC
notation"%1X"=>H d
notation"&5A"=>Ne.symm z
notation"&0a"=>%sx
notation"#U"z0:max z5:max=>Ax 1 z0 (#bz5)
notation"&0b"=>tgN 4
notation"&5B"=>.str "\n"
notation"&0c"=>&1uF
notation"%3C"z0:max=>C4 z0 rfl
notation"%1Y"=>S w
notation"&4j"z0:max=>.ins "Table" z0
notation"%8K"z0:max z5:max=>lnF z0 z5 (nW e) #r
notation"&5C"=>ws.map wd
notation"%8L"z0:max z5:max=>AH (.ref z0) z5
notation"&6R"=>SRT.getD i []
notation"%8M"z0:max z5:max=>#D(nW z0)#r z5
notation"&5D"=>if_neg h2
notation"&6S"z0:max=>N1.tab z0 (by decide)
notation"&4k"=>%3E&6R
notation"&4l"=>%8B%3H ls
notation"&1i"=>some a
notation"&1j"z0:max=>some (%8Bz0 ls)
macro"H":tactic=>`(tactic|(intro X hP hw hK hc i pins s σ H E I hf st hg;subst hP hw hK))
macro"j":tactic=>`(tactic|(intro pins s σ H Q I h))
macro"d6":tactic=>`(tactic|(
 h hhn:y.R.handlers=[]:=Classical.byContradiction λz=>by h:=Y.h6 z;omega
 h le0:%6Y=false:=by u lastEmpty;rw[hhn];rfl))
macro"f":tactic=>`(tactic|(split at P))
macro"b0":tactic=>`(tactic|(
 h nr:∀i,i<r0+11→¬b i:=λi hi z=>by h:=(hb i z).1;omega
 h r11:=G.ne.r11))
macro"M":tactic=>`(tactic|(intro pins s σ H x y v u Q I rx ry h))
macro"k":tactic=>`(tactic|(rw[Ac %w,%i,%i]))
macro"D":tactic=>`(tactic|(intro pins s σ H D I h))
macro"i9":tactic=>`(tactic|(r codeAny_call_function hr.depth (KX _ _ lk) rfl S.co S.gen rfl (PySem.W.codeRec_of KX hcd) (hb _ _ _ _ ?_);r wpAny_newFunctionEnv_cells S.kind hkind λenv he s1 x=>?_))
macro"N":tactic=>`(tactic|(o⟨f0,f1,f2,f3,f4,f5⟩:=%5y))
macro"n9":tactic=>`(tactic|(r &0k(g7 (C:=C) (nm:=nm) (q:=q) (N:=N) (bs:=bs) (bm:=bmV) (hdct:=true) (sn:=sn) (sub:=sub) (ab:=ab) (col:=col) (dd:=dd) (k0:=k0) (k1:=k1) (k2:=k2) (k3:=k3) (k5:=k5) (newId:="ValueError.__new__") (by decide+kernel) hr.hd ?_);r wpAny_bind (wpAny_mono (Q:=λv s1=>%4x(do standAt pos;pure v)_ _ s1) ?_ (λv s3 h3=>h3) λ_ _ z=>z)))
macro"J":tactic=>`(tactic|(o⟨F,m,h,τ,R,N,P⟩:=h))
macro"c2":tactic=>`(tactic|(rintro⟨a,ar⟩ v h2 ⟨h1,pre1,kp,L1,rfl,hin⟩;h G1:=&0Tkp))
macro"x":tactic=>`(tactic|(o⟨t,rfl⟩:=rx))
macro"b":tactic=>`(tactic|(omega))
macro"j0":tactic=>`(tactic|(show #A_ _(if(Value.ref d==Value.none)=true then _ else _)_ _;rw[if_neg (show¬((Value.ref d==Value.none)=true) from Bool.false_ne_true)]))
macro"f7":tactic=>`(tactic|(h hj:=L.ge;h TGj:∀{X:TS} {h1 h2:%a},FC j h1 h2→#Th1 X→#Th2 X:=λs t=>t.same hj s))
macro"a":tactic=>`(tactic|(rfl))
macro"o0":tactic=>`(tactic|(o⟨oe,g1,g2,_⟩:=(show C2 X.prog X.w H s.heap e (XO C d e) from hx.hok e _ x.2).1.choose_spec;r wpAny_handleBy_cons (codeAny_handlers_test (ht c C e (λ_ _=>False) hc _ _ s σ H e hx.toH ⟨oe,g1,g2⟩ λh' k Ih=>?_)) (by intro z;c z)))
macro"j1":tactic=>`(tactic|(h KX:&0y:=e0.mod.kin.keeps λb o e=>(e0.bs b o e).1;h lim:s.heap.NoLimit:=e0.mod.nolimit.keeps λb o e=>(e0.bs b o e).1))
macro"c3":tactic=>`(tactic|(h hlen:m≤h1.length:=by h:=%0Z.2;h:=kp.1;omega))
macro"f8":tactic=>`(tactic|(o⟨hs,hgd,hx,es',ep',vs,hdt,hsz,kv,hm⟩:=I.gp hd;o⟨rfl,rfl⟩:=OK hod hdt))
macro"c4":tactic=>`(tactic|(s[List.map_append,List.map_cons,List.map_nil]))
macro"W":tactic=>`(tactic|(subst ex;obtain rfl:u=%3M:=rx))
macro"j2":tactic=>`(tactic|(rw[arm_exec_Raise];o⟨nm,q,N,bs,sn,sub,ab,col,dd,k0,k1,k2,k3,k5,mN,hC,hn,hi,hno⟩:=(LP I.ok.mod.kin cl).ex))
macro"b5":tactic=>`(tactic|(simpa [List.getElem?_drop] using this))
macro"d7":tactic=>`(tactic|(s[List.length_append,List.length_cons,List.length_nil]))
macro"d8":tactic=>`(tactic|(o⟨oc,od,kV,doc,pm,an,cdv,ct,osl,rfl,lk,hcd⟩:=F.ex))
macro"q":tactic=>`(tactic|(split at P2))
macro"b6":tactic=>`(tactic|(
 h e:b=it:=by simpa using hb
 subst e))
macro"f9":tactic=>`(tactic|(rintro a v h1 ⟨rfl,w1,⟨s1,L1,_⟩,_,_,hc,_,_⟩;h T1:=TGj s1 TG))
macro"K":tactic=>`(tactic|(rw[Ac %w]))
macro"j3":tactic=>`(tactic|(rw[decide_eq_false %w];a))
macro"I":tactic=>`(tactic|(s[AE,pure_bind]))
macro"j4":tactic=>`(tactic|(rw[show Jp f v ((k,x)::r)=(if k=f then(k,v)::r else(k,x)::Jp f v r) from rfl];by_cases hk:k=f))
macro"b7":tactic=>`(tactic|(intro pins s σ H xs us Q I r h))
macro"j5":tactic=>`(tactic|(o⟨hh,g,dr,tk,os⟩:=s;h hna:mN f=none:=hno f (by rcases hf with rfl|rfl|rfl<;>simp[LQ])))
macro"o1":tactic=>`(tactic|(h hcb:¬b h.length:=λz=>Nat.lt_irrefl _ (hb _ z);h st:=VS (h0:=h) (c:=h.length) (x2:=%1K) (acc:=[UInt8.ofNat k]) H Kp.app (by rw[BX,cy hk]) %L hcb (Nat.ne_of_gt hj) (by simp)))
macro"c5":tactic=>`(tactic|(o⟨x,h1,e1,e2⟩:=CZ e))
macro"E":tactic=>`(tactic|(rename_i hz))
macro"o2":tactic=>`(tactic|(e⟨e,t0,d,sl,rfl,I4.bk _ _ hC,ho,hX _ _ ⟨σ,_,e,d,rfl,⟨I4.Rb (pins':=[]) λp hp=>%0bhp,a1⟩,.inl (%9d_⟨_,ho,rfl,rfl,rfl,λ_=>rfl⟩),w e d _ a1 a2 ne⟩⟩))
macro"b8":tactic=>`(tactic|(h hm:=G.hm;h hmj:m≤j:=%0Z.1))
macro"F":tactic=>`(tactic|(rw[Ac %w,%i]))
macro"j6":tactic=>`(tactic|(subst hqs;h hlen:qs0.length=hs0.length:=by h:=q2.1;rw[hh] at this;simpa using this))
macro"j7":tactic=>`(tactic|(o⟨nm,q,N,bs,sn,sub,ab,col,dd,k0,k1,k2,k3,k5,mN,hC,hn,_,hno⟩:=(LP I.kIn cl).ex))
macro"l":tactic=>`(tactic|(rw[this]))
macro"j8":tactic=>`(tactic|(r⟨len,λA outer s H args us vs Q E hr e0 hb r hsp=>?_⟩;h hl:=len _ _ _ _ hsp))
macro"j9":tactic=>`(tactic|(intro F hF;s[Cu,hr,A3,List.length_cons,List.length_nil,Nat.reduceAdd,if_true,hF]))
macro"d9":tactic=>`(tactic|(rw[if_neg q];rw[decide_eq_false %w] at hc))
macro"z":tactic=>`(tactic|(split at e))
macro"e0":tactic=>`(tactic|(r wpAny_Call_Name_kw (GQ I hg hm ?_ hdb)))
macro"e1":tactic=>`(tactic|(rw[if_pos q];rw[decide_eq_true %w] at hc))
macro"b9":tactic=>`(tactic|(o⟨qs,q1,q2,q3,q4⟩:=G.hl))
macro"Z":tactic=>`(tactic|(intro pins s σ H R I h))
macro"v":tactic=>`(tactic|(simp only))
macro"k0":tactic=>`(tactic|(s[if_true,Nat.reduceEqDiff,if_false,newIn,AE,pure_bind,hf,Option.getD_some]))
macro"o3":tactic=>`(tactic|(r thn (hi pins s σ H _ I h) λiv s1 ⟨y,H1,I1,ry,q1⟩=>thn (ho pins s1 σ H1 _ I1 q1) λu s2 ⟨x,H2,I2,rx,a,kvs,k,ex,kd,ey,q2⟩=>?_;subst ex ey))
macro"c6":tactic=>`(tactic|(K;r Aq (o:=.dct (CG 1 y.R)) ?_))
macro"g0":tactic=>`(tactic|(rintro⟨w,r⟩ v h1 ⟨rfl,⟨s1,L1,_⟩,_,hc⟩))
macro"o4":tactic=>`(tactic|(r j9 F S (λvs H Q E ⟨e,t,ys,hv,hl,_⟩=>by rw[hv,List.length_cons,hl];rfl) λcdv A outer s H vs Q E hr hsp=>?_;o⟨e,t,ys,rfl,hl,he,k⟩:=hsp))
macro"e2":tactic=>`(tactic|(o⟨o',e1⟩:=I.base.there b o e hx))
macro"o5":tactic=>`(tactic|(r j8 F S (λvs H Q E ⟨F,m,h,xs,R,r,e,_⟩=>by rw[←r.length,e]) λcdv A outer s H vs Q E hfr hr hsp=>?_;o⟨F,m,h,xs,R,r,e,p⟩:=hsp))
macro"n":tactic=>`(tactic|(congr 1))
macro"o6":tactic=>`(tactic|(j;r thn (hi pins s σ H _ I h) λiv s1 ⟨y,H1,I1,ry,q1⟩=>thn (ho pins s1 σ H1 _ I1 q1) λu s2 ⟨x,H2,I2,rx,a,ov,ex,g,q2⟩=>?_))
macro"e3":tactic=>`(tactic|(rename_i z;o⟨v,rfl,rx⟩:=r.inv1))
macro"a0":tactic=>`(tactic|(rw[if_neg (by simp)]))
macro"o7":tactic=>`(tactic|(s[El,List.length_nil,Nat.zero_le,if_true,List.length_append,List.length_cons,List.append_assoc,List.cons_append,List.nil_append]))
macro"k1":tactic=>`(tactic|(o⟨l1,l2⟩:=q2.2 qs0.length q v (by simp) (by rw[hh,hlen];simp)))
macro"o8":tactic=>`(tactic|(r wpAny_bind (&5N?_);r wpAny_bind (m:=firstArgMember _ _) (wpAny_of_eq (a:=Value.none) (by first|rfl|(s[firstArgMember];rfl)) ?_)))
macro"g1":tactic=>`(tactic|(rw[show &6l=its.any %8s by simp,Sl r fs];e q))
macro"k2":tactic=>`(tactic|(obtain⟨⟨k,v⟩,hkv⟩:∃p,kvs[i]? =some p:=⟨kvs[i],%3D⟩))
macro"o9":tactic=>`(tactic|(o⟨F',l3,R3,rx⟩:=a.2 x' H' y;r ag F' m2 h2 H' x x' τ2 σ τ3 _ R3 (N2.mono l3) rx e3 λσ2 N3=>⟨F',m2,h2,τ3,R3,N3,?_⟩))
macro"p0":tactic=>`(tactic|(h hjl:j'<h.length:=(List.getElem?_eq_some_iff.mp ej).1;r⟨upd F %0o (.frz od %6d),m,%5vj',τ,R1,by rw[hlen];e N.mono l1,?_⟩))
macro"p1":tactic=>`(tactic|(
 h:(Ai acc).length+(Ai cs).length≤sizeLine:=by s[Ai,List.length_map];e hl
 h ba:Ai (acc++cs)=Ai acc++Ai cs:=List.map_append ..))
macro"k3":tactic=>`(tactic|(c(show u=Value.ref b from ry);o⟨z,hd,xs,rel,dd⟩:=ao I.hok e))
macro"p2":tactic=>`(tactic|(h hR4:∀i,R i→H.length+4≤i:=λi hi=>(hR i hi).1;h g1:∀{h1:%a},BG H SP lp h1 b→BN "shows" #H h1=&3oh1:=λB=>B.ga rfl))
macro"p":tactic=>`(tactic|(subst e))
macro"p3":tactic=>`(tactic|(r thn (ha pins s σ H _ I h) λv s1 ⟨x,H1,I1,r1,q1⟩=>?_;r thn (hb pins s1 σ H1 _ I1 q1) λu s2 ⟨y,H2,I2,r2,q2⟩=>?_))
macro"a1":tactic=>`(tactic|(rw[List.length_set]))
macro"p4":tactic=>`(tactic|(h hcls:(X.env.scope.kind==.class||(X.env.scope.kind==.module&&X.env.locals != X.env.globals))=false:=by rw[I.ok.kind];rfl))
macro"k4":tactic=>`(tactic|(rename_i kvs k e1 e2;o⟨i,vs,rfl,hi,rfl,q1,r1⟩:=Qi R rx e1))
macro"p5":tactic=>`(tactic|(
 h hge':es.size≤i:=by rw[hsz];e hge
 s[show¬((i:Int)<0) from %w,if_false,Int.toNat_natCast,Array.getElem?_eq_none hge']))
macro"c7":tactic=>`(tactic|(s[List.length_cons] at hn))
macro"g2":tactic=>`(tactic|(show Sim _ (if ^f=false then _ else _) _))
macro"p6":tactic=>`(tactic|(h l1:Le F m h.length (upd F %0o (.frz od %6d)) m h.length:=.frz hn;h hlen:(h.set j' O.hole).length=h.length:=by simp))
macro"p7":tactic=>`(tactic|(r wpAny_bind (wpAny_field hz rfl (x:=.ref TO) rfl ?_);r wpAny_bind (wpAny_setField_rec hz (by simp) λha hza sa=>?_)))
macro"a2":tactic=>`(tactic|(rw[Ac %w,%i,%i,%i]))
macro"p8":tactic=>`(tactic|(h lw:Le F m h.length F2 m2 h.length:=l1.trans (by rw[hlen] at l2;e l2);h rk2:RK g F2 m2 h.length kvs vs:=rk.mono lw))
macro"g3":tactic=>`(tactic|(o⟨sl,e1⟩:=I.base.slot b o e n hb hx))
macro"g4":tactic=>`(tactic|(intro pins s σ H x xs v us Q I rx rs h))
macro"g5":tactic=>`(tactic|(s[hS,if_true,Nat.reduceEqDiff,if_false]))
macro"p9":tactic=>`(tactic|(j;r PySem.W.methodCall_KW (pl:=pl) (thn (he pins s σ H _ I h) λu s1 ⟨x,H1,I1,rx,a,dx,fs,ex,ea,l,q⟩=>?_) ht))
macro"k5":tactic=>`(tactic|(subst he;r⟨lim.keeps x.toInCall.keep,codeAny_func ?_⟩))
macro"k6":tactic=>`(tactic|(rintro p v h2 ⟨rfl,hp,hps,s2,pre2,L2⟩;h T2:=TGj s2 T1))
macro"k7":tactic=>`(tactic|(rcases g with⟨kvs,k,e,ey,l⟩|⟨kvs,k,b,e,ey,eb,l⟩))
macro"q0":tactic=>`(tactic|(
 h e1:(op==CmpOp.In)=false:=by c op<;>first|rfl|e ^Uh
 h e2:(op==CmpOp.NotIn)=false:=by c op<;>first|rfl|e ^Uh2))
macro"a3":tactic=>`(tactic|(o⟨t',rfl⟩:=ry))
macro"L":tactic=>`(tactic|(split at h))
macro"k8":tactic=>`(tactic|(intro pins s σ H x v vl vu lo hi sl Q I rx hs pl pu h))
macro"q1":tactic=>`(tactic|(h:fitsInt (n:Int)=false:=by u fitsInt;rw[decide_eq_false (by omega:¬(n:Int)≤2147483647),Bool.and_false]))
macro"k9":tactic=>`(tactic|(o⟨o,e,c,d⟩:=st;e⟨o,e,λv z=>by rw[d] at z;c z⟩))
macro"g6":tactic=>`(tactic|(rcases q with q|⟨p,rfl,h1,h2,h3⟩))
macro"q2":tactic=>`(tactic|(s[List.lookup_cons,hx];by_cases hc:(k₀==NameKind.free&&sc.kind==.function&&sc.names.lookup n==%0H)=true))
macro"q3":tactic=>`(tactic|(rw[show((X.drained:Int)+had.length)=((X.drained+had.length:Nat):Int) by omega];e Eb (%9i0) (by simp[UM])))
macro"R":tactic=>`(tactic|(rw[if_neg q]))
macro"y":tactic=>`(tactic|(subst z))
macro"q4":tactic=>`(tactic|(h I1:%3c{s with heap:=h',toks:=tk}:=I.turned (λb o hb e=>kk b o (by simpa using hb) e) f0 f1 f3 f4 f5))
macro"l0":tactic=>`(tactic|(intro value slice pins s σ H x y v u Q I rx ry h hs))
macro"e4":tactic=>`(tactic|(rw[le0,Bool.or_false] at hc))
macro"g":tactic=>`(tactic|(e %j))
macro"O":tactic=>`(tactic|(rw[q] at e))
macro"g7":tactic=>`(tactic|(rcases List.mem_cons.mp h with e|h))
macro"e5":tactic=>`(tactic|(o⟨h',e1,s1,L1⟩:=L.take))
macro"q5":tactic=>`(tactic|(rw[decide_eq_true (List.length_pos_iff.mpr this)];s[Option.map_some,Option.getD_some,Bool.true_and]))
macro"q6":tactic=>`(tactic|(h z2:WData.weightAll ds≤1048576:=z;o⟨A,h1,h2⟩:=Sk ds _ hall p λd hd=>Nat.le_trans (PF hd) z2))
macro"g8":tactic=>`(tactic|(o⟨z,hd,vs,rel,dd⟩:=Xj I.hok e))
macro"q7":tactic=>`(tactic|(o⟨c,r,rfl⟩:=List.exists_cons_of_ne_nil hw;h hb':∀d∈r,32<d∧d≤126:=λd hd=>hb d (#ahd)))
macro"q8":tactic=>`(tactic|(rw[hlen] at l4;r⟨R4.frz _ _ hF4,?_,⟨λa o z=>?_,by rw[List.length_set];e&3r.le,&3r.ad⟩⟩))
macro"a4":tactic=>`(tactic|(dsimp only at P))
macro"q9":tactic=>`(tactic|(c rx<;>first|e %j|(c ry<;>first|e %j|e⟨rfl,by rw[dvi];e %5L⟩|e⟨rfl,by rw[dvs];e %5L⟩)))
macro"l1":tactic=>`(tactic|(rw[hL] at LL;rw[show Di _ _ _ _ _ _ _=_ from LL]))
macro"r0":tactic=>`(tactic|(o⟨q,hq⟩:=Option.ne_none_iff_exists'.mp hql;o⟨qs0,hqs⟩:=List.getLast?_eq_some_iff.mp hq))
macro"S":tactic=>`(tactic|(split at P1))
macro"g9":tactic=>`(tactic|(o⟨f1,f2,f3⟩:=fin l4 R4 e4 ()))
macro"r1":tactic=>`(tactic|(show wpAny _ _ (field %7v 3>>= _) _ _ _;r wpAny_bind (wpAny_field hz rfl (x:=.ref TI) rfl ?_)))
macro"r2":tactic=>`(tactic|(h hz:i=0∨i=1∨i=2∨i=3∨i=4∨i=5:=%w;rcases hz with hz|hz|hz|hz|hz|hz<;>subst hz<;>rfl))
macro"l2":tactic=>`(tactic|(h G3:=G1.kp kp3 hmj;h q1':h3[r0+9]? =&4r:=%9cq1))
macro"e6":tactic=>`(tactic|(o⟨F,m,h,τ,R,N,P⟩:=q))
macro"l3":tactic=>`(tactic|(rcases S.par n (List.of_mem_zip hy).1 with q|q))
macro"r3":tactic=>`(tactic|(e Rv %3f st hgd hdt hsz hi λh' eb=>⟨rfl,%5U(λb ob hb e=>eb b ob hb e)f0 f1 f3 f4 f5⟩))
macro"r4":tactic=>`(tactic|(h hkj:k≠j:=λz=>hk (by rw[z];e L.ge);h hh1:h1[k]? =%V(had.map nW):=(s1.2 k hkj).trans hh))
macro"r5":tactic=>`(tactic|(u Builtin.SmallTypes.ownedTupleIsFree;r wpAny_bind (wpAny_field hz rfl (x:=.none) rfl %0R)))
macro"i":tactic=>`(tactic|(simp))
macro"h0":tactic=>`(tactic|(c5;o⟨rfl,g1⟩:=pa _ _ _ _ e1))
macro"r6":tactic=>`(tactic|(show wpAny _ _ (field %7v 2>>= _) _ _ _;r wpAny_bind (wpAny_field hz rfl (x:=%7W) rfl ?_)))
macro"r7":tactic=>`(tactic|(h em4:m4 j'=%0o:=(l4.ad j' (by rw[hlen];e hjl)).trans em;h hF4:F4 %0o=&0W:=l4.fr _ _ hF2))
macro"r8":tactic=>`(tactic|(r thn (hl pins s σ H _ I h) λv s1 ⟨x,H1,I1,r1,q1⟩=>?_;o⟨a,e,⟨xs,hq⟩,q⟩:=q1))
macro"l4":tactic=>`(tactic|(o⟨zs,q,rfl⟩:=Option.map_eq_some_iff.mp e))
macro"h1":tactic=>`(tactic|(o⟨z,its,n,r,hl,e⟩:=I.fU hH))
macro"l5":tactic=>`(tactic|(r &6mhod hdd ?_;rw[if_neg (by rw[hsz];simp)]))
macro"r9":tactic=>`(tactic|(h I1:&2J:=%5U(λb ob hb e=>(sb.2 b hb).trans e)f0 f1 f3 f4 f5;o⟨oi,e,c,dd⟩:=id st'))
macro"s0":tactic=>`(tactic|(r %3q(Sz L (B.lamps hD) hh ha);rintro a v h1 ⟨x,w1,hx,rfl,ea,⟨s1,L1,_⟩,el,hab⟩))
macro"s1":tactic=>`(tactic|(rintro⟨d,r3⟩ v3 h3 ⟨rfl,kp3,⟨pre3,L3⟩,hdl⟩;h:=fin3 d r3 h3 pre3 kp3 L3 hdl))
macro"l6":tactic=>`(tactic|(rw[List.contains_eq_any_beq,List.any_map];n))
macro"s2":tactic=>`(tactic|(s[sliceBounds,HT.sIx,Option.getD_none,show(1:Int)>0 by decide,if_true];by_cases h:i<0))
macro"T":tactic=>`(tactic|(rename_i q))
macro"c8":tactic=>`(tactic|(o⟨_,_,_,q⟩:=hs))
macro"e7":tactic=>`(tactic|(rw[if_neg (by decide)]))
macro"s3":tactic=>`(tactic|(r(I.hok b u e).Jb (λc v hc q=>k c v ?_ q) (λ_ q=>q) λ_ _ q=>q;rcases hc with z|z))
macro"s4":tactic=>`(tactic|(h I1:&2J:=%5U(λb o hb e=>(sb.2 b hb).trans e)f0 f1 f3 f4 f5;o⟨o,e,c,d⟩:=id st'))
macro"s5":tactic=>`(tactic|(r &4yhTI rfl ?_;show wpAny _ _ (Builtin.SmallTypes.ownedTupleIsFree %7v>>= _) _ _ _))
macro"l7":tactic=>`(tactic|(h e:h[i]? =&4b:=%3D;generalize h[i]=o at e))
macro"l8":tactic=>`(tactic|(h q:h[i]? =&4b:=%3D;generalize h[i]=o at q))
macro"l9":tactic=>`(tactic|(rw[if_neg (by rintro(z|z|z|z)<;>omega)];a))
macro"s6":tactic=>`(tactic|(o⟨v,vs,rfl,x1,x2⟩:=Wz x;h q:plW d=true∧Uh ds=true:=Bool.and_eq_true_iff.mp p))
macro"c0":tactic=>`(tactic|(o⟨t,rfl⟩:=r))
macro"s7":tactic=>`(tactic|(h hz:(fs.map (·.1)).length≤sizeLine:=by rw[List.length_map,sizeLine_eq];omega))
macro"h2":tactic=>`(tactic|(s[List.lookup_cons,hx] at h'))
macro"s8":tactic=>`(tactic|(show(if &0ZS=true then acc::spl S (S.length-1) [] r else spl S 0 (acc++[c]) r)=_))
macro"s9":tactic=>`(tactic|(h k:∀b∈A,b∈a::A:=λb hb=>#ahb;r⟨a::A,List.mem_cons_self ..,λb hb=>?_⟩))
macro"m0":tactic=>`(tactic|(e %4Nq(PySem.W.cellsFrom_some _ _ _ %6l)))
macro"e8":tactic=>`(tactic|(o⟨_,_,pl,hj,_⟩:=L))
macro"e9":tactic=>`(tactic|(rw[List.map_map] at z))
macro"m1":tactic=>`(tactic|(rintro a v h' ⟨x,w,hx,rfl,ea,A,el,_⟩))
macro"t0":tactic=>`(tactic|(r &3jhe hd h1 ?_;rw[if_pos (show(Value.ref T != Value.none)=true from by simp)]))
macro"h3":tactic=>`(tactic|(rintro _ v h8 ⟨_,rfl,_⟩))
macro"t1":tactic=>`(tactic|(have em:m2 j'=%0o:=l2.ad j' (by rw[hlen];e hjl);h hF2:F2 %0o=&0W:=l2.fr _ _ Bi))
macro"t2":tactic=>`(tactic|(rw[List.size_toArray,List.length_take,List.length_drop,Array.length_toList];b))
macro"t3":tactic=>`(tactic|(s[inW,List.map_cons,List.any_cons,List.contains_cons,this] at ih ⊢;rw[←ih]))
macro"t4":tactic=>`(tactic|(h hj:=L.ge;h TGj:∀{h1 h2:%a},FC j h1 h2→%6ph1→%6ph2:=λs t=>t.same hj s))
macro"t5":tactic=>`(tactic|(r(I.hok b ob e).Jb (λc w' hc q=>(hs.2 c ?_).trans q) (λ_ q=>q) λ_ _ q=>q))
macro"t6":tactic=>`(tactic|(h:=R4.unlock (j:=j') (od:=od) (ds:=vs) e4 (by rw[em4];e hF4) (rk2.mono l4)))
macro"h4":tactic=>`(tactic|(intro wh pins s σ H Q I h))
macro"A":tactic=>`(tactic|(rw[e1]))
macro"h5":tactic=>`(tactic|(o⟨a1,a2,pl,hj,q⟩:=id L))
macro"U":tactic=>`(tactic|(h rk:=G.rk))
macro"f0":tactic=>`(tactic|(e(&1K.FZ %0I).FZ %0I))
macro"m2":tactic=>`(tactic|(rintro a v h1 ⟨w1,⟨s1,L1,_⟩,_⟩))
macro"t7":tactic=>`(tactic|(h:=congrArg (λl=>l[i]?) hk;s[List.getElem?_map,hi,Option.map_some] at this))
macro"t8":tactic=>`(tactic|(
 injection d' with d1 _
 h:its=its':=by simpa using congrArg Array.toList d1))
macro"m3":tactic=>`(tactic|(
 r wpAny_bind (wpAny_fieldsOf ho hd ?_);h hown:Builtin.Dict_items.ownsTuple "dict_keyiterator"=false:=by decide
 s[hown,Bool.false_eq_true,if_false]))
macro"h6":tactic=>`(tactic|(rw[Eb OH (by simp),&4D];a))
macro"t9":tactic=>`(tactic|(rintro⟨nn,nr⟩ v h1 ⟨rfl,w1,⟨s1,L1,_⟩,_,el1,hc,hin,_⟩;h G1:=&3U))
macro"V":tactic=>`(tactic|(K;e G1.cn))
macro"a5":tactic=>`(tactic|(rw[if_pos q]))
macro"c9":tactic=>`(tactic|(by_cases e:p.1=k))
macro"d0":tactic=>`(tactic|(rw[List.map_map]))
macro"d1":tactic=>`(tactic|(s[Function.comp]))
macro"d2":tactic=>`(tactic|(r Aq (o:=&4l) ?_))
macro"u0":tactic=>`(tactic|(rintro i k σ H ⟨F2,m2,h2,τ2,l2,R2,N2,P2⟩;h a:=hJ F2 m2 h2 H i l2 R2))
macro"u1":tactic=>`(tactic|(o⟨o,es,ep,ho,r⟩:=hm;e⟨o,es,ep,k _ o (λz=>(hf _ z).2.1 rfl) ho,r⟩))
macro"h7":tactic=>`(tactic|(h sz:oTup [] h=%9F[]:=rfl))
macro"h8":tactic=>`(tactic|(h gn:%7lh=%6jh:=hO.ga rfl))
macro"u2":tactic=>`(tactic|(o⟨hs,hgd,hx,es',ep',hdt,hsz,ent⟩:=I.rK hd;o⟨rfl,rfl⟩:=OK hod hdt))
macro"u3":tactic=>`(tactic|(o⟨u,hu,rfl⟩:=List.mem_map.mp hz;h:=q (vl u) (List.mem_map_of_mem hu)))
macro"m4":tactic=>`(tactic|(h g:Bf ^q &2D h=%D(r0+4)h:=N.get rfl))
macro"u4":tactic=>`(tactic|(rw[List.getElem?_set_ne (Ne.symm hij)] at e;o⟨u,e1,e2⟩:=R.obj i o e))
macro"u5":tactic=>`(tactic|(rintro⟨⟨tv,tat⟩,tr⟩ v h2 ⟨rfl,_,ht,w2,et,⟨s2,L2,_⟩,_⟩))
macro"u6":tactic=>`(tactic|(s[Option.map_some,Option.some.injEq] at this;e⟨p.2,by rw[←this]⟩))
macro"P":tactic=>`(tactic|(subst ex))
macro"t":tactic=>`(tactic|(rw[e]))
macro"u7":tactic=>`(tactic|(rw[List.getElem?_set_ne &1P] at e2;o⟨u',r',q⟩:=hl j y v' e1 e2 e3))
macro"u8":tactic=>`(tactic|(o⟨u,hu,ru⟩:=jS kv hkv;h hl:kvs.length=vs.length:=Paired.length kv))
macro"u9":tactic=>`(tactic|(h:=congrArg (λl=>W.ktp (List.map W.str l)) e;s[List.map_map] at this))
macro"v0":tactic=>`(tactic|(rename_i τ3 e3;r %8Ga.1 _(λσ' H' q=>⟨k,%0s,q⟩)(λx' H' y=>?_)))
macro"v1":tactic=>`(tactic|(r⟨m j',%6d,hu,True.intro,λod=>?_⟩;o⟨R1,hn⟩:=R.lock ej od vs))
macro"v2":tactic=>`(tactic|(s[Bq,BX];rw[if_pos (by s[List.length_map];omega),HV,List.map_append]))
macro"m5":tactic=>`(tactic|(h:=hcn 0;rw[List.drop_zero] at this))
macro"m6":tactic=>`(tactic|(h l2':=%9cl2;h gh3:%9jh3=%9Hh3:=&6Q))
macro"m7":tactic=>`(tactic|(generalize bhT=BT;generalize bhO=BO))
macro"v3":tactic=>`(tactic|(have v0:Vis #e "self":=(S.par "self" (by simp)).elim .inl λz=>%8E))
macro"m8":tactic=>`(tactic|(h q:(f==k)=false:=by simpa using q))
macro"G":tactic=>`(tactic|(e this))
macro"f1":tactic=>`(tactic|(by_cases hm:c∈cs))
macro"X":tactic=>`(tactic|(rintro rfl))
macro"Y":tactic=>`(tactic|(intro x hx))
macro"v4":tactic=>`(tactic|(rw[if_neg hm] at q;rw[decide_eq_false hm,if_neg Bool.false_ne_true]))
macro"v5":tactic=>`(tactic|(r wpAny_bind (wpAny_handled ?_);rw[show A.in1.handled=none from hh]))
macro"v6":tactic=>`(tactic|(rw[if_neg (by rintro(z|z|z|z)<;>first|omega|e q8 z.2)];s[if_neg q8]))
macro"v7":tactic=>`(tactic|(s[List.map_cons,List.cons.injEq,W.ref.injEq] at z;rw[z.1,ih ys z.2]))
macro"w":tactic=>`(tactic|(rw[z]))
macro"h9":tactic=>`(tactic|(o⟨its,rv,p,hz⟩:=&5z))
macro"a6":tactic=>`(tactic|(constructor))
macro"v8":tactic=>`(tactic|(h I2:Inv X [] σ H {s with heap:=h'}:=Ih.ofH ok;h f2:=XT.keeps f k))
macro"v9":tactic=>`(tactic|(rintro b' v h2 ⟨lp',B2⟩;e⟨_,h2,rfl,⟨_,_,_,rfl⟩,lp',B2⟩))
macro"w0":tactic=>`(tactic|(u raiseStmt;r wpAny_bind (wpAny_mono h (λv s1 h1=>?_) λ_ _ z=>z)))
macro"m9":tactic=>`(tactic|(rw[List.getElem?_set_ne &1P] at e))
macro"w1":tactic=>`(tactic|(e R.out i hi' (by rwa[List.getElem?_set_ne (Ne.symm hij)] at hh)))
macro"w2":tactic=>`(tactic|(c hx;e⟨by simp,(List.getElem?_eq_some_iff.mp hn).1,w,ea,A,el⟩))
macro"d":tactic=>`(tactic|(c e))
macro"i0":tactic=>`(tactic|(r⟨F,m,h,τ,R,N,?_⟩))
macro"f2":tactic=>`(tactic|(rcases q with q|q))
macro"i1":tactic=>`(tactic|(rw[List.length_append]))
macro"d3":tactic=>`(tactic|(intro i o hi q))
macro"w3":tactic=>`(tactic|(r &4Iho hd(by simp)?_;show wpAny _ _ (newExc &6d []>>= _) _ _ _))
macro"w4":tactic=>`(tactic|(s[List.length_cons] at hf hn;h oa:=app_list (p:=x.place) hh1 %w))
macro"w5":tactic=>`(tactic|(r(FY (L8.Ss (by decide))).toPure ?_;rintro _ v h9 ⟨_,rfl,_⟩))
macro"w6":tactic=>`(tactic|(h hl:(putK kvs k v).length≤sizeLine:=by h:=NN kvs k v;omega))
macro"c1":tactic=>`(tactic|(s[nW,oEq];j3))
macro"d4":tactic=>`(tactic|(rw[Ox L hc];a))
macro"n0":tactic=>`(tactic|(rw[List.map_cons,List.map_cons]))
macro"n1":tactic=>`(tactic|(intro pins s σ H vs us Q I r h))
macro"n2":tactic=>`(tactic|(s[List.nil_append,List.map_map]))
macro"w7":tactic=>`(tactic|(h hc:(EV.map λx=>x.1).contains w=true:=by rw[←&5L,hf];rfl))
macro"w8":tactic=>`(tactic|(obtain rfl:u=%3M:=rx;o⟨hd,_,vs,rel,dd⟩:=kd s2.heap I2.kIn))
macro"w9":tactic=>`(tactic|(h g0:%4p"drained"h1=^n(nW X.drained):=T1.ga rfl;xm [g0,nW,sa]))
macro"i2":tactic=>`(tactic|(o⟨m,hn,hl⟩:=I.loc))
macro"i3":tactic=>`(tactic|(o⟨s1,L1,ok⟩:=id A))
macro"x0":tactic=>`(tactic|(J;r⟨F,m,h,τ,R,N,AD P λx h1 F1 m1 H1 v l R1 rx P1=>?_⟩))
macro"x1":tactic=>`(tactic|(r %3q(QN L);rintro⟨w,r⟩ v h1 ⟨rfl,⟨s1,L1,ok⟩,el⟩))
macro"x2":tactic=>`(tactic|(s[List.zipIdx_cons,List.zipIdx_nil,List.forIn_cons,List.forIn_nil];r &1t(wpAny_onRaise ?_);show wpAny _ _ (Builtin.SmallTypes.nextOf &2v>>= _) _ _ _))
macro"a7":tactic=>`(tactic|(rename_i e))
macro"a8":tactic=>`(tactic|(dsimp only))
macro"f3":tactic=>`(tactic|(simpa using this))
macro"a9":tactic=>`(tactic|(rename_i i))
macro"x3":tactic=>`(tactic|(c ry<;>first|(e⟨rfl,by rw[W8 rx];e %5L⟩)|(c rx<;>e %j)))
macro"n3":tactic=>`(tactic|(o⟨e,n,ne,nf,d⟩:=I.pin p hp))
macro"n4":tactic=>`(tactic|(o⟨j,h1,h2,h3,h4,h5⟩:=YU he))
macro"n5":tactic=>`(tactic|(o⟨its,r,pl,hz⟩:=I.tuple hq))
macro"x4":tactic=>`(tactic|(rintro a v h2 ⟨v1,rfl,rfl,hlt2,w2,ea,⟨s2,L2,_⟩,el⟩))
macro"x5":tactic=>`(tactic|(h a:(32:UInt8).toNat=32:=rfl;h b:(126:UInt8).toNat=126:=rfl))
macro"d5":tactic=>`(tactic|(rw[if_neg %w]))
macro"Q":tactic=>`(tactic|(e G1.ob))
macro"x6":tactic=>`(tactic|(
 h:x≠n:=by rintro rfl;e h v List.mem_cons_self
 simp[this]))
macro"x7":tactic=>`(tactic|(o⟨oi,e,c,dd⟩:=st;e⟨oi,e,λv z=>by rw[dd] at z;c z⟩))
macro"B":tactic=>`(tactic|(split))
macro"i4":tactic=>`(tactic|(rcases hq with hq|hq))
macro"C":tactic=>`(tactic|(r %0F))
macro"i5":tactic=>`(tactic|(rw[Bool.not_true,EW]))
macro"x8":tactic=>`(tactic|(s[e2,Option.map_some];o⟨a',us,ea,q2,r2⟩:=Ds R2 rx2 e2))
macro"x9":tactic=>`(tactic|(rw[eb];e λF' m' H' τ l R' N'=>p F' m' H' .non l R' .non))
macro"y0":tactic=>`(tactic|(rw[e] at q;e absurd (Value.type.inj (Uv q).1) (by decide)))
macro"y1":tactic=>`(tactic|(rw[List.findIdx?_map,List.findIdx?_eq_some_iff_getElem]))
macro"y2":tactic=>`(tactic|(rw[Jv ry e2];e⟨m i,_,rfl,M1.k q1,by rw[Qd r1];e %5L⟩))
macro"n6":tactic=>`(tactic|(E;rw[Bool.and_eq_true] at hz))
macro"n7":tactic=>`(tactic|(rcases h with(h|⟨o,h⟩)|h))
macro"f4":tactic=>`(tactic|(by_cases hj:j=i))
macro"m":tactic=>`(tactic|(c rx))
macro"f5":tactic=>`(tactic|(rw[←r.length]))
macro"y3":tactic=>`(tactic|(h I2:&OH1 {s1 with heap:=h'}:=I1.kept (t':=s1.toks) hk))
macro"y4":tactic=>`(tactic|(h hsz:%1Y.cps.size=(w.map λc=>&4Q).length:=by simp[S]))
macro"y5":tactic=>`(tactic|(h hp:x.place≤31:=TK.mco x (List.mem_of_getElem? hx')))
macro"y6":tactic=>`(tactic|(have hn:R.handlers=[]:=List.getLast?_eq_none_iff.mp hg))
macro"f6":tactic=>`(tactic|(h T3:=TGj s3 T2))
macro"y7":tactic=>`(tactic|(o⟨_,_,_,_,o,_,_,e,ex,_⟩:=I.hok p _ hk;e⟨o,e,ex⟩))
macro"y8":tactic=>`(tactic|(h:=congrArg (List.map W.str) e;rw[List.map_map] at this))
macro"y9":tactic=>`(tactic|(rw[ev];e⟨_,h',rfl,rfl,s1.kp,⟨_,L'⟩,by simp[le]⟩))
macro"z0":tactic=>`(tactic|(rintro c5 v h5 ⟨w5,⟨s5,L5,_⟩,_⟩;h T5:=TGj s5 T4))
macro"z1":tactic=>`(tactic|(rw[Ay (AN q' fr),Ay (λz=>by rw[z,he] at q';c q')];e q'))
macro"i6":tactic=>`(tactic|(rw[Bool.eq_iff_iff]))
macro"i7":tactic=>`(tactic|(rcases hty with e|e))
macro"z2":tactic=>`(tactic|(rw[UInt8.lt_iff_toNat_lt,UInt8.lt_iff_toNat_lt] at h1))
macro"i8":tactic=>`(tactic|(s[List.length_cons]))
macro"z3":tactic=>`(tactic|(rcases GF SH w.w with⟨i,hi,hf,hwi,hk⟩|⟨hf,hk⟩))
macro"z4":tactic=>`(tactic|(u Hn;rw[List.append_assoc,e1,A3,List.length_append,e2]))
macro"z5":tactic=>`(tactic|(rintro c v h2 ⟨w2,⟨s2,L2,_⟩,_⟩;h T2:=TGj s2 T1))
macro"n8":tactic=>`(tactic|(o⟨u,h1',h2'⟩:=r2.get ei))
macro"z6":tactic=>`(tactic|(h hl:j<h.length:=(List.getElem?_eq_some_iff.mp hj).1))
macro"z7":tactic=>`(tactic|(r Y7 o hN hcl hb Hh I R N (λc fs e=>?_) (λhne=>?_)))
set_option hygiene true
namespace L2
open PySem PySem.Spec PyProof.Rows
abbrev Key:=Sum Int Str
%dNQ:Key→Value→Bool
 |.inl k,v=>Value.isInt k v
 |.inr x,v=>Value.isStrOf x v
%dvx(w:World):Key→Int
 |.inl k=>hashInt k
 |.inr x=>hashStr w x
%tDC:∀{k:Key} {v:Value},NQ k v=true→(∃i t,k=Sum.inl i∧v=Value.int i t)∨(∃x t,k=Sum.inr x∧v=Value.str x t)
 |.inl i,v,h=>by
  o⟨t,e⟩:=Value.isInt_shape (k:=i) (v:=v) h
  e .inl ⟨i,t,rfl,e⟩
 |.inr x,v,h=>by
  o⟨t,e⟩:=Value.isStrOf_shape (x:=x) (v:=v) h;e %8Gx t rfl e
%tf7(i:Int)(t:Tok):NQ (.inl i) (.int i t)=true:=by simp[NQ,Value.isInt]
%tfZ(x:Str)(t:Tok):NQ (.inr x) (.str x t)=true:=by simp[NQ,Value.isStrOf]
%trC(a b:Int):decide ((Sum.inl a:Key)=Sum.inl b)=(a==b):=by
 by_cases e:a=b
 ·p;i
 ·h h:¬(Sum.inl a:Key)=Sum.inl b:=λq=>e (Sum.inl.inj q);rw[decide_eq_false h];e(beq_eq_false_iff_ne.mpr e).symm
%trq(a b:Str):decide ((Sum.inr a:Key)=Sum.inr b)=decide (a=b):=by
 by_cases e:a=b
 ·p;i
 ·h h:¬(Sum.inr a:Key)=Sum.inr b:=λq=>e (Sum.inr.inj q);rw[decide_eq_false h,decide_eq_false e]
%trB(a:Int)(b:Str):decide ((Sum.inl a:Key)=Sum.inr b)=false:=decide_eq_false (λq=>nomatch q)
%trA(a:Str)(b:Int):decide ((Sum.inr a:Key)=Sum.inl b)=false:=decide_eq_false (λq=>nomatch q)
%dCi(prog:Program)(w:World):PySem.KeyKind prog w Key where
 is:=NQ
 hash:=vx w
 inj:=λv a b ha hb=>by
  rcases DC ha with⟨i,t,rfl,rfl⟩|⟨x,t,rfl,rfl⟩
  ·rcases DC hb with⟨j,u,rfl,e⟩|⟨y,u,rfl,e⟩
   ·injection e with e1 _;rw[e1]
   ·e nomatch e
  ·rcases DC hb with⟨j,u,rfl,e⟩|⟨y,u,rfl,e⟩
   ·e nomatch e
   ·injection e with e1 _;rw[e1]
 byValue:=λk v h=>by
  rcases DC h with⟨i,t,rfl,rfl⟩|⟨x,t,rfl,rfl⟩<;>rfl
 pyHash:=λhv h=>by
  rcases DC hv with⟨i,t,rfl,rfl⟩|⟨x,t,rfl,rfl⟩
  ·e wpAny_pyHash_int h
  ·e wpAny_pyHash_str h
 eqBool:=λhu hv h=>by
  rcases DC hu with⟨i,t,rfl,rfl⟩|⟨x,t,rfl,rfl⟩
  ·rcases DC hv with⟨j,u,rfl,rfl⟩|⟨y,u,rfl,rfl⟩
   ·rw[rC] at h;e wpAny_eqBool_int h
   ·rw[rB] at h;e SeqAt.EqAt.int_str i t y u _ _ _ _ h
  ·rcases DC hv with⟨j,u,rfl,rfl⟩|⟨y,u,rfl,rfl⟩
   ·rw[rA] at h;e SeqAt.EqAt.str_int x t j u _ _ _ _ h
   ·rw[rq] at h;e wpAny_eqBool_str h
 «strs»:=λk x t v h=>by
  rcases DC h with⟨i,u,rfl,e⟩|⟨y,u,rfl,e⟩
  ·e nomatch e
  ·injection e with e1 _
   subst e1;c v<;>rfl
%tZQ(prog:Program)(w:World)(i:Int)(t:Tok):(Ci prog w).is (.inl i) (.int i t)=true:=f7 i t
%tZP(prog:Program)(w:World)(x:Str)(t:Tok):(Ci prog w).is (.inr x) (.str x t)=true:=fZ x t
end L2
namespace L2
open PySem PySem.Spec PyProof.Rows
inductive V where
 |non|bl (b:Bool)|int (i:Int)|str (x:Str)|byt (b:Array UInt8)|flt (b:UInt64)|ref (a:Addr)|ty (n:String)
 deriving DecidableEq
%dRelV:V→Value→Prop
 |.non,u=>u=Value.none
 |.bl b,u=>u=Value.bool b
 |.int i,u=>∃t,u=Value.int i t
 |.str x,u=>∃t,u=Value.str x t
 |.byt b,u=>∃t,u=Value.bytes b t
 |.flt b,u=>∃t,u=Value.float b t
 |.ref a,u=>u=%3M
 |.ty n,u=>u=Value.type n
abbrev Vals:%c→%o→Prop:=Paired RelV
%tVals.length{xs:%c}{us:%o}(r:%4e):xs.length=us.length:=Paired.length r
%tVals.get:∀{xs:%c} {us:%o} {i:Nat} {x:V},%4e→xs[i]? =%v→∃u,us[i]? =%x∧RelV x u
 |_,_,_,_,.nil,e=>by simp at e
 |_,_,0,_,%5I_,e=>by simp at e;subst e;e⟨_,rfl,r⟩
 |_,_,i+1,x,.cons _ t,e=>by
  o⟨u,h1,h2⟩:=Vals.get (i:=i) (x:=x) t (by simpa using e);e⟨u,by simpa using h1,h2⟩
%tVals.set{x:V}{u:Value}(r:%4Gx):∀{xs:%c} {us:%o} (i:Nat),%4e→Vals (xs.set i x) (us.set i u)
 |_,_,_,.nil=>.nil
 |_,_,0,.cons _ t=>%5It
 |_,_,i+1,.cons q t=>.cons q (Vals.set r i t)
%tVals.append:∀{xs ys:%c} {us ws:%o},%4e→Vals ys ws→Vals (xs++ys) (us++ws)
 |_,_,_,_,.nil,s=>s
 |_,_,_,_,%5It,s=>%5I(Vals.append t s)
%tVals.take:∀{xs:%c} {us:%o} (n:Nat),%4e→Vals (xs.take n) (us.take n)
 |_,_,0,_=>.nil
 |_,_,_+1,.nil=>.nil
 |_,_,n+1,%5It=>%5I(Vals.take n t)
%tVals.drop:∀{xs:%c} {us:%o} (n:Nat),%4e→Vals (xs.drop n) (us.drop n)
 |_,_,0,r=>r
 |_,_,_+1,.nil=>.nil
 |_,_,n+1,.cons _ t=>Vals.drop n t
%tVals.none_of:∀{xs:%c} {us:%o} {i:Nat},%4e→xs[i]? =none→us[i]? =none:=λ{xs us i} r e=>by
 h h1:=r.length;h h2:xs.length≤i:=List.getElem?_eq_none_iff.mp e;e List.getElem?_eq_none_iff.mpr %w
%dJL:%8i→&f→Prop
 |some v,%x=>%1p
 |none,none=>True
 |_,_=>False
%dKV{κ:Type}:#P→%7V→Prop:=Paired λ(p:κ×V) (q:κ×Value)=>p.1=q.1∧RelV p.2 q.2
%dkV:Key→V
 |.inl i=>^x
 |.inr x=>%0J
inductive HO where
 |lst (xs:%c)
 |tup (xs:%c)
 |dK (kvs:#E)|dT (kvs:%4A)
 |set (S:Int→Bool) (n:Nat)
 |ins (C dx:Addr) (fs:%1C)
 |own (x:Addr)
 |xd (fs:%1C)
 |met (f x:Addr)
 |rng (lo hi:Int)
 |frz (o:Obj) (u:HO)
 |tbl (ps:%0G)
 |ext (φ:Heap→Prop)
abbrev Hp:=Addr→Option HO
%dupd(H:Hp)(a:Addr)(o:HO):Hp:=λb=>if b=a then %b else %O
%tBi{H:Hp}{a:Addr}{o:HO}:upd H a o a=%b:=by u upd;rw[if_pos rfl]
%tAy{H:Hp}{a b:Addr}{o:HO}(h:b≠a):upd H a o b=%O:=by u upd;rw[if_neg h]
%tlP{H:Hp}{a:Addr}{o u:HO}:upd (%Ya o) a u=%Ya u:=by
 funext b;u upd;split<;>rfl
%tud{H:Hp}{a b:Addr}{o u:HO}(h:&Q=%b)(h':%O=%x)(d:o≠u):a≠b:=by
 intro e;p;rw[h] at h';e d (Option.some.inj h')
%tAN{H:Hp}{a b:Addr}{o:HO}(h:&Q=%b)(h':%O=none):a≠b:=by
 intro e;p;rw[h] at h';c h'
section
variable(P:Program)(w:World)
%dC2(H:Hp)(h:Heap)(a:Addr):HO→Prop
 |.lst xs=>xs.length≤sizeLine∧∃(its:%o) (n:Nat),%9W∧%0h=some {cls:=%0c,data:=&1Jn}
 |.tup xs=>xs.length≤sizeLine∧∃its:%o,%9W∧IsTup h a its.toArray
 |.dK kvs=>kvs.length≤sizeLine∧(a==sysModules)=false∧∃vs,%3B∧h.DictOf (Ci P w) a vs
 |.dT kvs=>kvs.length≤sizeLine∧(a==sysModules)=false∧∃xs:&1s,
   Paired (λ(p:%7p×V) (q:%7p×Addr×Value)=>p.1=q.1∧H q.2.1=%3J(p.1.map kV)∧RelV p.2 q.2.2) kvs xs∧
   ∃o es ep,%0h=%b∧o.ExactDict∧o.data=%1Q∧es.toList=xs.map (entryOfKey (tupleKind (Ci P w)))∧(xs.map (·.1)).Nodup
 |.set S n=>h.SetOf (intKind P w) a S n
 |.ins C dx fs=>H dx=%8ka∧fs.length≤1000∧dx≠a∧%0h=some (PySem.W.instObj C dx)∧
   ∃mA,h.Ns1 dx mA∧(∀f,JL %3N (mA f))∧PySem.Within mA (fs.map (·.1))
 |.own _=>∃o,%0h=%b
 |.xd fs=>∃mA,h.Ns1 a mA∧∀f,JL %3N (mA f)
 |.rng lo hi=>∃t u v,%0h=some {cls:=&3f,data:=.fields #[.int lo t,.int hi u,.int 1 v]}
 |.frz o u=>%0h=%b∧C2 H h a u
 |.tbl ps=>%0h=some {cls:=.none,data:=.fields ps}
 |.met f x=>%0h=some (PySem.W.methodObj %9T %3s)
 |.ext φ=>φ h∧(∃o,%0h=%b)∧∀h1 h2:Heap,φ h1→(∀o,h1.get? a=%b→h2.get? a=%b)→φ h2
%dHOk(H:Hp)(h:Heap):Prop:=∀a o,&Q=%b→C2 P w H h a o
end
section
variable{P:Program}{w:World}{H H':Hp}{h h':Heap}{a:Addr}{o:HO}
%tC2.lt(x:C2 P w H h a o):a<h.objs.size:=by
 cases o with
 |lst xs=>o⟨_,_,_,_,e⟩:=x;e %4D
 |tup xs=>o⟨_,_,_,p⟩:=x;e p.lt
 |dK kvs=>o⟨_,_,_,_,o,_,_,e,_⟩:=x;e %4D
 |dT kvs=>o⟨_,_,_,_,o,_,_,e,_⟩:=x;e %4D
 |set S n=>o⟨o,_,_,_,e,_⟩:=x;e %4D
 |ins C dx fs=>o⟨_,_,_,e,_⟩:=x;e %4D
 |own y=>o⟨_,e⟩:=x;e %4D
 |xd fs=>o⟨_,⟨_,_,_,e,_⟩,_⟩:=x;e %4D
 |rng lo hi=>o⟨_,_,_,e⟩:=x;e %4D
 |frz ob u=>o⟨e,_⟩:=x;e %4D
 |tbl ps=>e Heap.lt_size (show %0h=some _ from x)
 |met f y=>e Heap.lt_size (show %0h=some _ from x)
 |ext φ=>o⟨_,⟨_,e⟩,_⟩:=x;e %4D
%tPaired.rn{α β:Type}{F G:α→β→Prop}:∀{l₁:#y} {l₂:List β},Paired F l₁ l₂→(∀a b,F a b→G a b)→Paired G l₁ l₂
 |_,_,.nil,_=>.nil
 |_,_,%5It,f=>.cons (f _ _ r) (Paired.rn t f)
%tC2.Jb(x:C2 P w H h a o)(k:∀b u,(b=a∨%O=%8ka)→#W=%x→#Q=%x)
 (ho:∀b,%O=%8ka→%0C=%8ka) (ht:∀b xs,%O=&1a→%0C=&1a):C2 P w H' h' a o:=by
 induction o with
 |lst xs=>o⟨z,its,n,r,e⟩:=x;e⟨z,its,n,r,k _ _ %U e⟩
 |tup xs=>o⟨z,its,r,ob,e,c⟩:=x;e⟨z,its,r,ob,k _ _ %U e,c⟩
 |dK kvs=>o⟨z,y,vs,r,ob,es,ep,e,c⟩:=x;e⟨z,y,vs,r,ob,es,ep,k _ _ %U e,c⟩
 |dT kvs=>
  o⟨z,y,xs,r,ob,es,ep,e,c⟩:=x
  e⟨z,y,xs,Paired.rn r λp q z=>⟨z.1,ht _ _ z.2.1,z.2.2⟩,ob,es,ep,k _ _ %U e,c⟩
 |set S n=>o⟨ob,es,ep,t,e,c⟩:=x;e⟨ob,es,ep,t,k _ _ %U e,c⟩
 |ins C dx fs=>
  o⟨d,z,ne,e,mA,⟨od,es,ep,e2,c⟩,r⟩:=x
  e⟨ho _ d,z,ne,k _ _ %U e,mA,⟨od,es,ep,k _ _ (.inr d) e2,c⟩,r⟩
 |own y=>o⟨ob,e⟩:=x;e⟨ob,k _ _ %U e⟩
 |xd fs=>o⟨mA,⟨od,es,ep,e,c⟩,r⟩:=x;e⟨mA,⟨od,es,ep,k _ _ %U e,c⟩,r⟩
 |rng lo hi=>o⟨t,u,v,e⟩:=x;e⟨t,u,v,k _ _ %U e⟩
 |frz ob u ih=>o⟨e,q⟩:=x;e⟨k _ _ %U e,ih q⟩
 |tbl ps=>
  have e:%0h=some {cls:=.none,data:=.fields ps}:=x;show &5y=some {cls:=.none,data:=.fields ps}
  e k a _ %U e
 |met f y=>
  have e:%0h=some (PySem.W.methodObj %9T (.ref y)):=x;show &5y=some (PySem.W.methodObj %9T (.ref y))
  e k a _ %U e
 |ext φ=>o⟨p,⟨o,e⟩,st⟩:=x;e⟨st _ _ p λo q=>k _ _ %U q,⟨o,k _ _ %U e⟩,st⟩
%tHOk.lt(x:HOk P w H h)(e:&Q=%b):a<h.objs.size:=(x a o e).lt
%tHOk.fresh(x:HOk P w H h)(e:h.objs.size≤a):&Q=none:=by
 cases q:&Q with
 |none=>rfl
 |some u=>e %4v(Nat.lt_of_lt_of_le (x.lt q) e)_
%tHOk.kept(x:HOk P w H h)(k:∀b u,#W=%x→#Q=%x):HOk P w H h':=λa o e=>
 (x a o e).Jb (λb u _ q=>k b u q) (λ_ q=>q) λ_ _ q=>q
%tHOk.laid(x:HOk P w H h)(k:∀b u,#W=%x→#Q=%x)(hp:h.objs.size≤a)(new:C2 P w (%Ya o) h' a o):HOk P w (%Ya o) h':=λb u e=>by
 h hn:=x.fresh hp;by_cases hb:b=a
 ·subst hb;rw[Bi] at e;d;e new
 ·rw[Ay hb] at e;e(x b u e).Jb (λc v _ q=>k c v q) (λc q=>by rw[Ay (AN q hn)];e q) λc xs q=>by rw[Ay (AN q hn)];e q
end
%dRd(H:Hp)(a:Addr)(u:HO):Prop:=&Q=%x∨∃o,&Q=^Go u
%tRd.of{H:Hp}{a:Addr}{u:HO}(h:&Q=%x):Rd H a u:=%9N
%tRd.ok{P:Program}{w:World}{H:Hp}{h:Heap}{a:Addr}{u:HO}(r:Rd H a u)(x:HOk P w H h):C2 P w H h a u:=by
 rcases r with r|⟨o,r⟩
 ·e x a u r
 ·o⟨_,q⟩:=x a _ r;e q
%dMut:Option HO→Prop
 |some (.lst _)=>True
 |some (.dK _)=>True
 |some (.dT _)=>True
 |some (.set _ _)=>True
 |some (.ins _ _ _)=>True
 |some (.ext _)=>True
 |_=>False
section
variable{P:Program}{w:World}{H:Hp}{h h':Heap}{x e:Addr}{o':HO}
%tHOk.write(ok:HOk P w H h)(mu:Mut (H x))(he:e=x∨H e=%8kx)(k:∀b u,b≠e→#W=%x→#Q=%x)(heo:∃u,&3O=%x)
 (new:C2 P w (%Yx o') h' x o'):HOk P w (%Yx o') h':=λb u q=>by
 h nown:∀c y,H c=%8ky→c≠x:=λc y r z=>by subst z;rw[r] at mu;e mu
 h ntup:∀c xs,H c=&1a→c≠x:=λc xs r z=>by subst z;rw[r] at mu;e mu
 by_cases hb:b=x
 ·subst hb;rw[Bi] at q;c q;e new
 ·rw[Ay hb] at q;by_cases hbe:b=e
  ·h q':%O=%8kx:=by
    rcases he with z|z
    ·e absurd (hbe.trans z) hb
    ·rw[hbe];e z
   rw[q] at q';c q';o⟨v,hv⟩:=heo;e⟨v,by rw[hbe];e hv⟩
  ·r(ok b u q).Jb (λc v hc r=>k c v ?_ r) (λc r=>by rw[Ay (nown c b r)];e r) λc xs r=>by rw[Ay (ntup c xs r)];e r
   rcases hc with rfl|hc
   ·e hbe
   ·X;rcases he with z|z
    ·e nown c b hc z
    ·rw[hc] at z;c z;e hb rfl
end
structure Un(fs ex:&H)(H H':Hp)(h h':Heap):Prop where
 keep:∀b o,#W=%b→%O=none→b∉fs→b∉ex→#Q=%b
 slot:∀b o,#W=%b→%O=none→b∈fs→b∉ex→∃sl,#Q=some {o with slots:=sl}
 free:∀b o,#W=%b→%O=none→b∉ex→%0C=none
 there:∀b o,#W=%b→b∉ex→∃o',#Q=some o'
 Qp:∀b xs,%O=&1a→%0C=&1a
 OW:∀b o u,%O=^Go u→%0C=^Go u
 Qq:∀b ps,%O=some (.tbl ps)→∃more,%0C=some (.tbl (ps++more))
section
variable{fs fs' ex ex':List Addr}{H H1 H2:Hp}{h h1 h2 h':Heap}{a x e:Addr}{o:HO}
%tUn.any(u:Un fs ex H H1 h h1){b:Addr}{ob:Obj}(q:#W=some ob)(n:%O=none)(hx:b∉ex):∃sl,h1.get? b=some {ob with slots:=sl}:=by
 by_cases hb:b∈fs
 ·e u.slot b ob q n hb hx
 ·e⟨ob.slots,u.keep b ob q n hb hx⟩
%tUn.trans(a:Un fs ex H H1 h h1)(b:Un fs ex H1 H2 h1 h2):Un fs ex H H2 h h2 where
 keep:=λc ob q n hc hx=>b.keep c ob (a.keep c ob q n hc hx) (a.free c ob q n hx) hc hx
 slot:=λc ob q n hc hx=>by
  o⟨sl,e1⟩:=a.slot c ob q n hc hx;o⟨sl',e2⟩:=b.slot c _ e1 (a.free c ob q n hx) hc hx;e⟨sl',e2⟩
 free:=λc ob q n hx=>by
  o⟨o',e1⟩:=a.there c ob q hx;e b.free c o' e1 (a.free c ob q n hx) hx
 there:=λc ob q hx=>by
  o⟨o',e1⟩:=a.there c ob q hx;e b.there c o' e1 hx
 Qp:=λc xs q=>b.Qp c xs (a.Qp c xs q)
 OW:=λc ob xs q=>b.OW c ob xs (a.OW c ob xs q)
 Qq:=λc ps q=>by
  o⟨m1,e1⟩:=a.Qq c ps q;o⟨m2,e2⟩:=b.Qq c _ e1;e⟨m1++m2,by rw[e2,Array.append_assoc]⟩
%tUn.kept(k:∀b u,#W=%x→#Q=%x):Un fs ex H H h h':=
 ⟨λb ob q _ _ _=>k b ob q,λb ob q _ _ _=>⟨ob.slots,k b ob q⟩,λ_ _ _ n _=>n,λb ob q _=>⟨ob,k b ob q⟩,λ_ _ q=>q,λ_ _ _ q=>q,λ_ ps q=>⟨#[],by rw[q];simp⟩⟩
%tUn.refl:Un fs ex H H h h:=Un.kept λ_ _ q=>q
%tUn.laid(k:∀b u,#W=%x→#Q=%x)(hp:h.objs.size≤a)(hn:&Q=none):Un fs ex H (%Ya o) h h' where
 keep:=λb u q _ _ _=>k b u q
 slot:=λb u q _ _ _=>⟨u.slots,k b u q⟩
 free:=λb u q n _=>by rw[Ay (&2Cq hp)];e n
 there:=λb u q _=>⟨u,k b u q⟩
 Qp:=λb xs q=>by rw[Ay (AN q hn)];e q
 OW:=λb u xs q=>by rw[Ay (AN q hn)];e q
 Qq:=λb ps q=>⟨#[],by rw[Ay (AN q hn),q];simp⟩
%tUn.write(mu:Mut (H x))(he:e=x∨H e=%8kx)(k:∀b u,b≠e→#W=%x→#Q=%x)(heo:∃u,&3O=%x):Un fs ex H (%Yx o) h h':=by
 h hx:∀b,%O=none→b≠x:=λb n z=>by subst z;rw[n] at mu;e mu
 h hb:∀b,%O=none→b≠e:=λb n z=>by
  y;rcases he with r|r
  ·e hx b n r
  ·rw[n] at r;c r
 h hm:∀b u,%O=%x→¬Mut %x→b≠x:=λb u q nm z=>by subst z;rw[q] at mu;e nm mu
 r⟨λb u q n _ _=>k b u (hb b n) q,λb u q n _ _=>⟨u.slots,k b u (hb b n) q⟩,λb u q n _=>by rw[Ay (hx b n)];e n,λb u q _=>?_,
  λb xs q=>by rw[Ay (hm b _ q λz=>z)];e q,λb u xs q=>by rw[Ay (hm b _ q λz=>z)];e q,λb ps q=>⟨#[],by rw[Ay (hm b _ q λz=>z),q];simp⟩⟩
 by_cases hbe:b=e
 ·subst hbe;e heo
 ·e⟨u,k b u hbe q⟩
%tUn.mono(u:Un fs ex H H1 h h1)(hs:∀b∈fs,b∈fs')(hx:∀b∈ex,b∈ex'):Un fs' ex' H H1 h h1:=
 ⟨λb ob q n hb he=>u.keep b ob q n (λz=>hb (hs b z)) λz=>he (hx b z),λ_ _ q n _ he=>u.any q n λz=>he (hx _ z),λb ob q n he=>u.free b ob q n λz=>he (hx b z),λb ob q he=>u.there b ob q λz=>he (hx b z),u.Qp,u.OW,u.Qq⟩
end
%dtrk(h:Heap)(H:Hp):&H:=(List.range h.objs.size).filter λa=>&Q.isSome
%dYE(h:Heap)(H:Hp):Heap:=PySem.W.hideAll h (trk h H)
%tgj(h:Heap)(H:Hp):(YE h H).objs.size=h.objs.size:=PySem.W.hideAll_size _ _
%tj3{h:Heap}{H:Hp}{b:Addr}{o:Obj}(e:#W=%b)(n:%O=none):(YE h H).get? b=%b:=
 PySem.W.hideAll_get _ e λhm=>by
  h q:%O.isSome=true:=(List.mem_filter.mp hm).2;rw[n] at q;simp at q
%tnq{h:Heap}{H:Hp}{b:Addr}{o:Obj}(e:(YE h H).get? b=%b):#W=%b∧%O=none:=by
 h e':#W=%b:=PySem.W.of_hideAll (trk h H) e;r⟨e',?_⟩
 cases q:%O with
 |none=>rfl
 |some x=>
  have hm:b∈trk h H:=List.mem_filter.mpr ⟨List.mem_range.mpr (Heap.lt_size e'),by simp[q]⟩;h z:(YE h H).get? b=none:=PySem.W.hideAll_none (trk h H) hm;rw[z] at e;d
%doM(g h:Heap)(L:Addr):%G:=(List.range h.objs.size).filterMap λa=>if a=L∨(g.get? a).isSome=true then none else%0h.map λo=>(a,o)
%drest(g h:Heap)(L d:Addr):%G:=(oM g h L).filter λp=>decide (p.1≠d)
end L2
namespace L2
open PySem PySem.Spec PyProof.Rows
structure Mod(K:PySem.W.Frag)(mg:Str→&f)(base:Heap):Prop where
 kin:K.In base
 glob:&4Emg
 blt:∃mb,base.Ns builtinsNs mb∧∀x:Str,x≠"__name__"→mb x=&1A
 nolimit:base.NoLimit
structure Cx where
 prog:Program
 w:World
 K:PySem.W.Frag
 mg:Str→&f
 base:Heap
 A:Around
 N:%u
 s_0:Shared
 H_0:Hp
 env:Env
 outer:^y
 stack:^y
 ex:&H
 fn:Str→Bool
 calm:Bool
 pn:%G
 xe:Value→Shared→Prop
%dfrs(l:^y):&H:=l.filterMap (·.frame)
abbrev Cx.fs(X:Cx):&H:=frs X.outer
%dVis(sc:Scope)(x:Str):Prop:=&0n=%0U∨&0n=%0H∨&0n=%6c
%dLoc(sc:Scope)(x:Str):Prop:=&0n=%0U∨&0n=%0H
%dLook(env:Env)(h:Heap)(m:Str→&f)(x:Str)(u:Value):Prop:=
 (env.kindOf x=%0U∧m x=%x)∨((env.kindOf x=%0H∨env.kindOf x=%6c)∧∃c,env.cells.lookup x=&q∧h.IsCell c %x)
structure Cx.Ok(X:Cx):Prop where
 mod:Mod X.K X.mg X.base
 kind:X.env.scope.kind=.function
 glob:X.env.globals=mainGlobals
 blt:X.env.builtins=builtinsNs
 above:X.s_0.heap.objs.size≤X.env.locals
 inj:∀x y c,%3G=&q→X.env.cells.lookup y=&q→x=y
 has:∀x,(X.env.kindOf x=%0H∨X.env.kindOf x=%6c)→∃c,%3G=&q
 cab:∀x c,%9O=true→%3G=&q→X.s_0.heap.objs.size≤c
 hd:X.calm=true→X.A.handled=none
 frames:X.A.frames=some X.stack
 stk:X.stack=X.outer∨(X.stack=X.env::X.outer∧X.env.frame=some X.env.locals)
 exf:∀b∈X.ex,b≠X.env.locals∧∀x c,%3G=&q→c≠b
 bs:∀b o,&4H=%b→X.s_0.heap.get? b=%b∧X.H_0 b=none
 bsz:X.base.objs.size≤X.s_0.heap.objs.size
 bK:∀b o,&4H=%b→b∉X.ex
 b5:∀b∈X.ex,b∉X.fs
 OV:X.s_0.heap.FunFrames X.base X.outer
 frf:∀b∈X.fs,X.H_0 b=none
structure Inv(X:Cx)(pins:%G)(σ:List %8i)(H:Hp)(s:Shared):Prop where
 ok:X.Ok
 os:s.os=X.s_0.os
 bare:AllBare s.gens
 base:Un X.fs X.ex X.H_0 H X.s_0.heap s.heap
 loc:∃m,s.heap.Ns X.env.locals m∧∀(i:Nat) (x:Str) (v:V),X.N[i]? =%v→σ[i]? =&1T→&5kx→∃u,%1p∧Look X.env s.heap m x u
 cell:∀x c,%3G=&q→∃v,s.heap.IsCell c v
 free:H X.env.locals=none
 Ia:∀x c,%3G=&q→H c=none
 pin:∀p∈X.pn++pins,s.heap.get? p.1=some p.2∧H p.1=none∧p.1≠X.env.locals∧p.1∉X.fs∧∀v,p.2.data≠.cell v
 hok:HOk X.prog X.w H s.heap
 len:σ.length=X.N.length
section
variable{X:Cx}{pins:List (Addr×Obj)}{σ:List (Option V)}{H H':Hp}{s:Shared}{h':Heap}
%tCx.Ok.vv(ok:X.Ok){b:Addr}{o:Obj}(e:&4H=%b):b∉X.fs:=λhb=>by
 h:=(ok.OV.mem hb).1;rw[e] at this;c this
%tInv.bs(I:%f):∀b o,&4H=%b→%0t=%b∧%O=none:=λb o e=>
 ⟨I.base.keep b o (I.ok.bs b o e).1 (I.ok.bs b o e).2 (I.ok.vv e) (I.ok.bK b o e),I.base.free b o (I.ok.bs b o e).1 (I.ok.bs b o e).2 (I.ok.bK b o e)⟩
%tInv.bk(I:%f):∀b o,&4H=%b→%0t=%b:=λb o e=>(I.bs b o e).1
%tInv.mod(I:%f):Mod X.K X.mg X.base:=I.ok.mod
%tInv.kIn(I:%f):X.K.In s.heap:=I.ok.mod.kin.keeps I.bk
%tInv.nolimit(I:%f):s.heap.NoLimit:=I.ok.mod.nolimit.keeps I.bk
%tInv.fr(I:%f):∃m,Fr X.base X.env.locals s.heap m:=
 let⟨m,hn,_⟩:=I.loc
 ⟨m,hn,I.bk,&4zI.ok.above⟩
%tInv.lt(I:%f):X.env.locals<s.heap.objs.size:=let⟨_,hn,_⟩:=I.loc;hn.lt
%tInv.sz(I:%f):X.s_0.heap.objs.size≤s.heap.objs.size:=Nat.le_trans I.ok.above (Nat.le_of_lt I.lt)
%tInv.vt(I:%f){a:Addr}(h:s.heap.objs.size≤a):a∉X.fs:=λhb=>by
 o⟨_,o,ho,_⟩:=I.ok.OV.mem hb;e %4v(&5Fho(Nat.le_trans I.sz h))_
%tInv.cne(I:%f):∀x c,%3G=&q→c≠X.env.locals:=λx c e z=>by
 o⟨v,o,ho,hd⟩:=I.cell x c e;o⟨m,⟨o',es,ep,ho',hd',_⟩,_⟩:=I.loc;rw[z,ho'] at ho;c ho;rw[hd'] at hd;c hd
%tInv.OV(I:%f):s.heap.FunFrames X.base X.outer:=by
 h all:∀(l:^y),(∀b∈frs l,b∈X.fs)→X.s_0.heap.FunFrames X.base l→s.heap.FunFrames X.base l:=by
  intro l
  induction l with
  |nil=>intro _ _;trivial
  |cons env r ih=>
   intro hs hl;o⟨hk,⟨L,o,hf,hn,ho,hd⟩,hr⟩:=hl;h hL:L∈X.fs:=hs L (by u frs;rw[List.filterMap_cons,hf];e List.mem_cons_self);o⟨sl,e⟩:=I.base.slot L o ho (I.ok.frf L hL) hL λz=>I.ok.b5 L z hL;e⟨hk,⟨L,_,hf,hn,e,hd⟩,ih (λb hb=>hs b (by u frs;rw[List.filterMap_cons,hf];e #ahb)) hr⟩
 e all X.outer (λ_ hb=>hb) I.ok.OV
%tInv.stack(I:%f):s.heap.FunFrames X.base X.stack:=by
 rcases I.ok.stk with e|⟨e,hf⟩
 ·t;e I.OV
 ·t;o⟨m,hn,_⟩:=I.loc;r .cons (by rw[I.ok.kind];decide) hf hn ?_ I.OV;e Heap.get?_none_of_le (&4zI.ok.above)
%tInv.aX(I:%f):∀b∈&1L,b∈X.env.locals::X.fs:=λb hb=>by
 rcases I.ok.stk with e|⟨e,hf⟩
 ·rw[e] at hb;e #ahb
 ·rw[e] at hb;u frs at hb;rw[List.filterMap_cons,hf] at hb;e hb
%tInv.XX(I:%f):∀b∈&1L,%O=none:=λb hb=>by
 rcases List.mem_cons.mp (I.aX b hb) with e|hb
 ·t;e I.free
 ·o⟨_,o,ho,_⟩:=I.ok.OV.mem hb;e I.base.free b o ho (I.ok.frf b hb) λz=>I.ok.b5 b z hb
%tInv.step{g':Array GenState}{t':Nat}{d':Drawn}{ch:&H}(I:%f)
 (hch:∀b∈ch,(b∈X.ex∨X.s_0.heap.objs.size≤b)∧b≠X.env.locals∧(∀x c,%3G=&q→c≠b)∧∀p∈X.pn++pins,p.1≠b)
 (keep:∀b o,b≠X.env.locals→b∉X.fs→b∉ch→%0t=%b→%O=none→#Q=%b)
 (slot:∀b o,b≠X.env.locals→b∈X.fs→b∉ch→%0t=%b→%O=none→∃sl,#Q=some {o with slots:=sl}) (free:∀b o,b∉ch→%0t=%b→%O=none→%0C=none)
 (there:∀b o,b∉ch→%0t=%b→∃o',#Q=some o')
 (Qp:∀b xs,%O=&1a→%0C=&1a) (OW:∀b o u,%O=^Go u→%0C=^Go u) (Qq:∀b ps,%O=some (.tbl ps)→∃more,%0C=some (.tbl (ps++more)))
 (ns:∀m,s.heap.Ns X.env.locals m→h'.Ns X.env.locals m) (hok:HOk X.prog X.w H' h') (hg:AllBare g'):
 &OH' {s with heap:=h',gens:=g',drawn:=d',toks:=t'}:=by
 h neL:∀b o,X.s_0.heap.get? b=%b→b≠X.env.locals:=λb o e=>&1Ve
 h neC:∀b o,X.s_0.heap.get? b=%b→b∉X.ex→b∉ch:=λb o e hx hb=>by
  rcases(hch b hb).1 with z|z
  ·e hx z
  ·e %4v(&5Fe z)_
 h cellK:∀x c,%3G=&q→∀v,s.heap.IsCell c v→h'.IsCell c v:=λx c e v ⟨o,ho,hd⟩=>by
  h nch:c∉ch:=λz=>(hch c z).2.2.1 x c e rfl;by_cases hc:c∈X.fs
  ·o⟨sl,q⟩:=slot c o (I.cne x c e) hc nch ho (I.Ia x c e);e⟨_,q,hd⟩
  ·e⟨o,keep c o (I.cne x c e) hc nch ho (I.Ia x c e),hd⟩
 r⟨I.ok,I.os,hg,⟨λb o e n hb hx=>?_,λb o e n hb hx=>?_,λb o e n hx=>?_,λb o e hx=>?_,λb xs e=>Qp b xs (I.base.Qp b xs e),λb o xs e=>OW b o xs (I.base.OW b o xs e),λb ps e=>?_⟩,?_,λx c e=>?_,?_,λx c e=>?_,λp hp=>?_,hok,I.len⟩
 ·e keep b o (neL b o e) hb (neC b o e hx) (I.base.keep b o e n hb hx) (I.base.free b o e n hx)
 ·g3;o⟨sl',e2⟩:=slot b _ (neL b o e) hb (neC b o e hx) e1 (I.base.free b o e n hx);e⟨sl',e2⟩
 ·e2;e free b o' (neC b o e hx) e1 (I.base.free b o e n hx)
 ·e2;e there b o' (neC b o e hx) e1
 ·o⟨m1,e1⟩:=I.base.Qq b ps e;o⟨m2,e2⟩:=Qq b _ e1;e⟨m1++m2,by rw[e2,Array.append_assoc]⟩
 ·i2;r⟨m,ns m hn,λi x v e1 e2 e3=>?_⟩;o⟨u,r,l⟩:=hl i x v e1 e2 e3;r⟨u,r,?_⟩;rcases l with l|⟨k,c,e,z⟩
  ·e .inl l
  ·e %8Gk c e(cellK x c e _ z)
 ·o⟨v,z⟩:=I.cell x c e;e⟨v,cellK x c e v z⟩
 ·o⟨m,⟨o,_,_,ho,_⟩,_⟩:=I.loc;e free _ o (λz=>(hch _ z).2.1 rfl) ho I.free
 ·o⟨v,o,ho,hd⟩:=I.cell x c e;e free c o (λz=>(hch c z).2.2.1 x c e rfl) ho (I.Ia x c e)
 ·n3;h nch:p.1∉ch:=λz=>(hch p.1 z).2.2.2 p hp rfl;e⟨keep p.1 p.2 ne nf nch e n,free p.1 p.2 nch e n,ne,nf,d⟩
%tInv.un{t':Nat}(I:%f)(u:Un X.fs [] H H' s.heap h')(hok:HOk X.prog X.w H' h'):&2FH':=by
 o⟨m,⟨o,es,ep,ho,r⟩,_⟩:=id I.loc;o⟨sl,hL⟩:=u.any ho I.free (by simp)
 e I.step (g':=s.gens) (d':=s.drawn) (ch:=[]) (λ_ z=>nomatch z) (λb o _ hb _ e n=>u.keep b o e n hb (by simp)) (λb o _ hb _ e n=>u.slot b o e n hb (by simp)) (λb o _ e n=>u.free b o e n (by simp)) (λb o _ e=>u.there b o e (by simp)) u.Qp u.OW u.Qq (λm' hm=>by
  o⟨o',es',ep',ho',r'⟩:=hm;rw[ho] at ho';c ho'
  e⟨_,es',ep',hL,r'⟩) hok I.bare
%tInv.call{g':Array GenState}{t':Nat}{d':Drawn}{ch:&H}(I:%f)(u:Un &1L ch H H' s.heap h')(hok:HOk X.prog X.w H' h')(hg:AllBare g')
 (hch:∀b∈ch,(b∈X.ex∨X.s_0.heap.objs.size≤b)∧b≠X.env.locals∧(∀x c,%3G=&q→c≠b)∧∀p∈X.pn++pins,p.1≠b):
 &OH' {s with heap:=h',gens:=g',drawn:=d',toks:=t'}:=by
 o⟨m,⟨o,es,ep,ho,r⟩,_⟩:=id I.loc;o⟨sl,hL⟩:=u.any ho I.free λz=>(hch _ z).2.1 rfl
 e I.step (ch:=ch) hch (λb o hL hb hc e n=>u.keep b o e n (λz=>(List.mem_cons.mp (I.aX b z)).elim hL hb) hc) (λb o _ _ hc e n=>u.any e n hc) (λb o hc e n=>u.free b o e n hc) (λb o hc e=>u.there b o e hc) u.Qp u.OW u.Qq (λm' hm=>by
  o⟨o',es',ep',ho',r'⟩:=hm;rw[ho] at ho';c ho'
  e⟨_,es',ep',hL,r'⟩) hok hg
%tInv.turned{t':Nat}{it:Addr}(I:%f)(k:∀b o,b≠it→%0t=%b→#Q=%b)(hn:H it=none)(hL:it≠X.env.locals)
 (h1:it∈X.ex∨X.s_0.heap.objs.size≤it) (h2:∀x c,%3G=&q→c≠it) (h3:∀p∈X.pn++pins,p.1≠it):%3c{s with heap:=h',toks:=t'}:=by
 h nit:∀b u,%O=%x→b≠it:=λb u e z=>by rw[z,hn] at e;c e
 r I.step (g':=s.gens) (d':=s.drawn) (ch:=[it]) (λb hb=>?_) (λb o _ _ hc e _=>k b o (λz=>&4B) e) (λb o _ _ hc e _=>⟨o.slots,k b o (λz=>&4B) e⟩) (λ_ _ _ _ n=>n)
  (λb o hc e=>⟨o,k b o (λz=>&4B) e⟩) (λ_ _ e=>e) (λ_ _ _ e=>e) (λb ps e=>⟨#[],by rw[e];simp⟩) (λm hm=>?_) (λb u e=>?_) I.bare
 ·b6;e⟨h1,hL,h2,h3⟩
 ·o⟨o,es,ep,ho,r⟩:=hm;e⟨o,es,ep,k _ o (Ne.symm hL) ho,r⟩
 ·s3
  ·w;e nit b u e
  ·e nit c _ z
%tInv.tok(I:%f)(t:Nat):%3c{s with toks:=t}:=I.un (h':=s.heap) (t':=t) Un.refl I.hok
%tInv.kept{t':Nat}(I:%f)(k:∀b u,%0t=%x→#Q=%x):%3c{s with heap:=h',toks:=t'}:=I.un (Un.kept k) (I.hok.kept k)
%tInv.laid{a:Addr}{o:HO}{t':Nat}(I:%f)(k:∀b u,%0t=%x→#Q=%x)(hp:s.heap.objs.size≤a)(new:C2 X.prog X.w (%Ya o) h' a o):
 &2F(%Ya o):=I.un (Un.laid k hp (I.hok.fresh hp)) (I.hok.laid k hp new)
%tInv.write{x e:Addr}{o:HO}{t':Nat}(I:%f)(mu:Mut (H x))(he:e=x∨H e=%8kx)(k:∀b u,b≠e→%0t=%x→#Q=%x)(heo:∃u,&3O=%x)
 (new:C2 X.prog X.w (%Yx o) h' x o):&2F(%Yx o):=I.un (Un.write mu he k heo) (I.hok.write mu he k heo new)
%tInv.weak{σ':List %8i}(I:%f)(hl:σ'.length=σ.length)(w:∀(i:Nat) v,σ'[i]? =&1T→σ[i]? =&1T):%1eX σ' H s:=
 ⟨I.ok,I.os,I.bare,I.base,let⟨m,hn,hl'⟩:=I.loc;⟨m,hn,λi x v e1 e2 e3=>hl' i x v e1 (w i v e2) e3⟩,I.cell,I.free,I.Ia,I.pin,I.hok,hl.trans I.len⟩
%tInv.Rb{pins':%G}(I:%f)(h:∀p∈pins',s.heap.get? p.1=some p.2∧H p.1=none∧p.1≠X.env.locals∧p.1∉X.fs∧∀v,p.2.data≠.cell v):Inv X pins' σ H s:=
 ⟨I.ok,I.os,I.bare,I.base,I.loc,I.cell,I.free,I.Ia,λp hp=>(List.mem_append.mp hp).elim (λz=>I.pin p (&6nz)) (h p),I.hok,I.len⟩
%tVh{N:%u}(hN:N.Nodup){i j:Nat}{x:Str}(a:N[i]? =%v)(b:N[j]? =%v):i=j:=by
 o⟨h1,e1⟩:=List.getElem?_eq_some_iff.mp a;o⟨h2,e2⟩:=List.getElem?_eq_some_iff.mp b;e(List.getElem_inj hN).mp (e1.trans e2.symm)
%teK{M:Model}{A:Around}{E:Value→Shared→Prop}{i:Nat}{x:Str}{v:V}{u:Value}{Q:Unit→Shared→Prop}(I:%f)(hN:X.N.Nodup)(hi:X.N[i]? =%v)(hx:&1Mx)(r:%1p)
 (h:∀s',%1eX&5l H s'→(∃a,&3la s'.heap∧(a=X.env.locals∨%3G=&1i))→Q () s') (hf:%9O=true∨%8U=%0U:=by first|e %U|e %1j|assumption):#AM A(storeName X.env x u)Q E:=by
 o⟨m,hn,hl⟩:=id I.loc;p4;h hiσ:i<σ.length:=by rw[I.len];e(List.getElem?_eq_some_iff.mp hi).1
 h cne:=I.cne
 h tracked:∀{a:Addr} {h':Heap},(∃o,s.heap.get? a=%b∧&Q=none)→&3la h'→HOk X.prog X.w H h':=λ{a h'} ha hs b ob e=>by
  o⟨_,_,hfree⟩:=ha;t5;X;rcases hc with rfl|hc
  ·rw[hfree] at e;d
  ·rw[hfree] at hc;c hc
 rcases hx with hk|hk
 ·r wpAny_storeName_local hk hn (λh' hn' hs=>?_) hcls;o⟨oL,_,_,hoL,_⟩:=id hn;r h _ ⟨I.ok,I.os,I.bare,⟨λb o e n hb hx=>?_,λb o e n hb hx=>?_,I.base.free,λb o e hx=>?_,I.base.Qp,I.base.OW,I.base.Qq⟩,⟨_,hn',λj y v' e1 e2 e3=>?_⟩,λy c e=>?_,I.free,I.Ia,λp hp=>?_,tracked ⟨oL,hoL,I.free⟩ hs,by simpa using I.len⟩ ⟨_,hs,%U⟩
  ·e(hs.2 b (&1Ve)).trans (I.base.keep b o e n hb hx)
  ·g3;e⟨sl,(hs.2 b (&1Ve)).trans e1⟩
  ·e2;e⟨o',(hs.2 b (&1Ve)).trans e1⟩
  ·f4
   ·subst hj;rw[hi] at e1;c e1;rw[List.getElem?_set_self hiσ] at e2;c e2;e⟨u,r,.inl ⟨hk,by simp⟩⟩
   ·u7;r⟨u',r',?_⟩;rcases q with⟨k,e⟩|⟨k,c,e,z⟩
    ·r .inl ⟨k,?_⟩;h:y≠x:=λe=>hj (Vh hN e1 (e▸hi));simp[this,e]
    ·e %8Gk c e(z.sameBut hs (cne y c e))
  ·o⟨w',z⟩:=I.cell y c e;e⟨w',z.sameBut hs (cne y c e)⟩
  ·n3;e⟨(hs.2 p.1 ne).trans e,n,ne,nf,d⟩
 ·h hfn:%9O=true:=by
   rcases hf with z|z
   ·e z
   ·rw[z] at hk;c hk
  o⟨c,hc⟩:=I.ok.has x (.inl hk);o⟨w',z⟩:=I.cell x c hc;r wpAny_storeName_cell I.ok.kind hk hc z (λh' hc' hs=>?_);o⟨oc,hoc,hocd⟩:=id z;r h {s with heap:=h'} ⟨I.ok,I.os,I.bare,⟨λb o e n hb hx=>?_,λb o e n hb hx=>?_,I.base.free,λb o e hx=>?_,I.base.Qp,I.base.OW,I.base.Qq⟩,⟨m,hn.sameBut hs (Ne.symm (cne x c hc)),λj y v' e1 e2 e3=>?_⟩,λy c' e=>?_,I.free,I.Ia,λp hp=>?_,tracked ⟨oc,hoc,I.Ia x c hc⟩ hs,by simpa using I.len⟩ ⟨c,hs,.inr hc⟩
  ·e(hs.2 b (&2Ce(I.ok.cab x c hfn hc))).trans (I.base.keep b o e n hb hx)
  ·g3;e⟨sl,(hs.2 b (&2Ce(I.ok.cab x c hfn hc))).trans e1⟩
  ·e2;e⟨o',(hs.2 b (&2Ce(I.ok.cab x c hfn hc))).trans e1⟩
  ·f4
   ·subst hj;rw[hi] at e1;c e1;rw[List.getElem?_set_self hiσ] at e2;c e2;e⟨u,r,%8G(.inl hk)c hc hc'⟩
   ·u7;r⟨u',r',?_⟩;rcases q with q|⟨k,c',e,z'⟩
    ·e %6l
    ·r .inr ⟨k,c',e,z'.sameBut hs ?_⟩;X;e hj (Vh hN e1 (I.ok.inj _ _ _ e hc▸hi))
  ·by_cases hcc:c'=c
   ·subst hcc;e⟨_,hc'⟩
   ·o⟨w2,z2⟩:=I.cell y c' e;e⟨w2,z2.sameBut hs hcc⟩
  ·n3;r⟨(hs.2 p.1 ?_).trans e,n,ne,nf,d⟩;intro q;rw[q,hoc] at e;h q':oc=p.2:=Option.some.inj e;e d w' (by rw[←q'];e hocd)
%tQr{M:Model}{A:Around}{E:Value→Shared→Prop}{i:Nat}{x:Str}{v:V}{u:Value}{Q:Unit→Shared→Prop}(I:%f)(hN:X.N.Nodup)(hi:X.N[i]? =%v)(hx:&1Mx)(r:%1p)
 (h:∀s',%1eX&5l H s'→Q () s') (hf:%9O=true∨%8U=%0U:=by first|e %U|e %1j|assumption):#AM A(storeName X.env x u)Q E:=
 eK I hN hi hx r (λs' I' _=>h s' I') hf
%tInv.kT{s':Shared}{ch:&H}(I:%f)(ho:s'.os=s.os)(u:Un &1L ch H H' s.heap s'.heap)(hok:HOk X.prog X.w H' s'.heap)(hg:&6p)
 (hch:∀b∈ch,(b∈X.ex∨X.s_0.heap.objs.size≤b)∧b≠X.env.locals∧(∀x c,%3G=&q→c≠b)∧∀p∈X.pn++pins,p.1≠b):&OH' s':=by
 o⟨h',g',d',t',o'⟩:=s';h e:o'=s.os:=ho;p;e I.call (g':=g') (t':=t') (d':=d') u hok hg hch
end
abbrev XK:=Value→%0v→Hp→Prop
abbrev St:=List %8i
abbrev VK:=V→Hp→Prop
abbrev TE:=St→Hp→VK→Prop
abbrev TT:=St→Hp→(Bool→Hp→Prop)→Prop
abbrev TA:=St→Hp→(List V→Hp→Prop)→Prop
structure Ends where
 nx:St→Hp→Prop
 rt:VK
 bk:St→Hp→Prop:=λ_ _=>False
 ct:St→Hp→Prop:=λ_ _=>False
abbrev TS:=Ends→St→Hp→Prop
%dEP(X:Cx)(pins:%G)(σ:St)(Q:VK)(u:Value)(s':Shared):Prop:=∃v H',&OH' s'∧%1p∧Q v H'
%dTP(X:Cx)(pins:%G)(σ:St)(Q:Bool→Hp→Prop)(b:Bool)(s':Shared):Prop:=∃H',&OH' s'∧Q b H'
%dAP(X:Cx)(pins:%G)(σ:St)(Q:%c→Hp→Prop)(us:%o)(s':Shared):Prop:=∃vs H',&OH' s'∧%8u∧Q vs H'
%dSP(X:Cx)(pins:%G)(D:Ends)(f:Flow)(s':Shared):Prop:=
 match f with
 |.next=>∃σ' H',%1eX σ' H' s'∧D.nx σ' H'
 |.brk=>∃σ' H',%1eX σ' H' s'∧D.bk σ' H'
 |.cont=>∃σ' H',%1eX σ' H' s'∧D.ct σ' H'
 |.ret u=>∃v σ' H',%1eX σ' H' s'∧%1p∧D.rt v H'
%dPE(X:Cx)(e:Expr)(t:TE):Prop:=
 ∀(pins:%G) (s:Shared) (σ:St) (H:Hp) (Q:VK),%f→t σ H Q→#i#u(EP X pins σ Q)
%dPT(X:Cx)(e:Expr)(t:TT):Prop:=
 ∀(pins:%G) (s:Shared) (σ:St) (H:Hp) (Q:Bool→Hp→Prop),%f→t σ H Q→#i(isTrue e X.env #u)(TP X pins σ Q)
%dPW(X:Cx)(e:Expr)(t:TT):Prop:=
 ∀(whole:%6e) (pins:%G) (s:Shared) (σ:St) (H:Hp) (Q:Bool→Hp→Prop),%f→t σ H Q→#i(isTrue e X.env whole)(TP X pins σ Q)
%tPW.pt{X:Cx}{e:Expr}{t:TT}(h:PW X e t):PT X e t:=h _
%dPA(X:Cx)(es:%0i)(t:TA):Prop:=
 ∀(pos:Pos) (pins:%G) (s:Shared) (σ:St) (H:Hp) (Q:%c→Hp→Prop),%f→t σ H Q→#i(spliced %5x)(AP X pins σ Q)
%dPS(X:Cx)(st:Stmt)(t:TS):Prop:=
 ∀(pins:%G) (s:Shared) (σ:St) (H:Hp) (D:Ends),%f→t D σ H→#i(exec st X.env)(SP X pins D)
%dPSs(X:Cx)(st:%0V)(t:TS):Prop:=
 ∀(pins:%G) (s:Shared) (σ:St) (H:Hp) (D:Ends),%f→t D σ H→#i(execs st X.env)(SP X pins D)
%tthn{α:Type}{t:Sem α}{Q Q':α→Shared→Prop}{M:Model}{A:Around}{E:Value→Shared→Prop}{s:Shared}(h:#AM A t Q E)(hQ:∀a s,Q a s→Q' a s):#AM A t Q' E:=wpAny_mono h hQ λ_ _ x=>x
end L2
namespace L2
open PySem PySem.Spec PyProof.Rows
section
variable{X:Cx}
%tbin{a b:Expr}{ta tb:TE}(ha:%6G)(hb:%kb tb){pins:%G}{s:Shared}{σ:St}{H:Hp}{R:V→V→Hp→Prop}(I:%f)(h:ta σ H λx H1=>tb σ H1 λy H2=>R x y H2)
 {α:Type} {Q:α→Shared→Prop} {f:Value→Value→Sem α}
 (hf:∀v u s2 x y H2,&OH2 s2→%5K→%0L→R x y H2→%1y(f v u)Q s2):
 #i%5B(λv s₁=>%1y(#Bb)(λu s₂=>%1y(f v u)Q s₂)s₁):=by
 p3;e hf v u s2 x y H2 I2 r1 r2 q2
%dlR(i:Nat):TE:=λσ H Q=>∃v,σ[i]? =&1T∧Q v H
%dtC(v:V):TE:=λ_ H Q=>Q v H
%tSJ{i:Nat}{x:Str}{pos:Pos}(hN:X.N[i]? =%v)(hv:&5kx)(hd:(x==("__debug__":Str))=false:=by decide)(hcd:(x==("__classdict__":Str))=false:=by decide):%k%9C(lR i):=by
 j;o⟨v,e,h⟩:=h;i2;o⟨u,r,l⟩:=hl i x v hN e hv;h fin:EP X pins σ Q u s:=⟨v,H,I,r,h⟩;rcases l with⟨hk,hm⟩|⟨hk,c,hc,hcell⟩
 ·e wpAny_Name (wpAny_loadName_local I.ok.kind hk hn hm fin) hd
 ·rcases hk with hk|hk
  ·e wpAny_Name (wpAny_loadName_cell I.ok.kind hk hc hcell fin) hd
  ·e wpAny_Name (wpAny_loadName_free I.ok.kind hk hc hcell fin hcd) hd
%tjm{i j pos}:%k(%8q^x pos)(tC ^x):=λ_ _ _ H _ I h=>wpAny_Constant_int (%6C^x H%6x h)
%tua{b j pos}:%k(%8q(.bool b)pos)(tC %7A):=λ_ _ _ H _ I h=>Constant_bool ⟨%7A,H,I,rfl,h⟩
%tqR{j pos}:%k(%8q.none pos)(tC .non):=λ_ _ _ H _ I h=>Constant_none ⟨.non,H,I,rfl,h⟩
%tqP{x j pos}:%k(%8q%0J pos)(tC %0J):=λ_ _ _ H _ I h=>Calls.Constant_str (%6C%0J H%6x h)
%dGl(X:Cx)(x:Str):Prop:=X.env.kindOf x=some .globalImplicit
%tGQ{E:Value→Shared→Prop}{pins:%G}{s:Shared}{σ:St}{H:Hp}{x:Str}{u:Value}{pos:Pos}{Q:Value→Shared→Prop}(I:%f)(hg:Gl X x)(hm:%0X=%x)(h:Q u s)
 (hd:(x==("__debug__":Str))=false:=by decide):%4x(#B%9C)Q E s:=
 Calls.Name_function_global I.ok.kind hg (Calls.loadGlobal_global (by rw[I.ok.glob];e I.mod.glob.keeps I.bk) hm h) hd
%tQc{E:Value→Shared→Prop}{pins:%G}{s:Shared}{σ:St}{H:Hp}{x:Str}{u:Value}{pos:Pos}{Q:Value→Shared→Prop}(I:%f)(hg:Gl X x)(hm:%0X=none)(hv:&1A=%x)(h:Q u s)
 (hn:x≠"__name__":=by decide) (hd:(x==("__debug__":Str))=false:=by decide):%4x(#B%9C)Q E s:=by
 o⟨mb,h1,h2⟩:=I.mod.blt;e Calls.Name_function_global I.ok.kind hg (Calls.loadGlobal_builtin (by rw[I.ok.glob];e I.mod.glob.keeps I.bk) hm (by rw[I.ok.blt];e h1.keeps I.bk) ((h2 x hn).trans hv) h) hd
%tmX{x:Str}{v:V}{u:Value}{pos:Pos}(hg:Gl X x)(hm:%0X=%x)(r:%1p)(hd:(x==("__debug__":Str))=false:=by decide):%k%9C(tC v):=
 λ_ _ _ H _ I h=>GQ I hg hm ⟨v,H,I,r,h⟩ hd
variable{a b:Expr}{ta tb:TE}{pos:Pos}
%dPC(X:Cx)(op:CmpOp)(a b:Expr)(t:TE):Prop:=
 ∀(pins:%G) (s:Shared) (σ:St) (H:Hp) (Q:VK),%f→t σ H Q→
  #i%5B(λv s₁=>%1y(#Bb)(λu s₂=>%1y(compareOp op v u)(EP X pins σ Q)s₂)s₁)
%tZI(b:Expr){op:CmpOp}(h:op≠.In)(h2:op≠.NotIn):&1b=false:=by
 q0;c b<;>simp[behindInMarks,e1,e2]
%dtB(t:TE):TT:=λσ H Q=>t σ H λx H1=>∃c,x=.bl c∧Q c H1
%tqT{op:CmpOp}{t:TE}(h:PC X op a b t)(h1:&1b=false:=by first|e ZI _ (by decide) (by decide)|rfl):%k(%7ta [op] [b])t:=λpins s σ H Q I hw=>wpAny_Compare1 (h pins s σ H Q I hw) h1
%tYc{op:CmpOp}{t:TE}(h:PC X op a b t)(h1:&1b=false:=by first|e ZI _ (by decide) (by decide)|rfl):PT X (%7ta [op] [b]) (tB t):=by
 intro pins s σ H Q I hw;r wpAny_isTrue_Compare1 (thn (h pins s σ H _ I hw) λv s1 h1=>thn h1 λu s2 h2=>thn h2 λc s3 ⟨x,H1,I1,r1,q1⟩=>?_) h1;o⟨d,rfl,q⟩:=q1;c r1;e wpAny_truthy_bool ⟨H1,I1,q⟩
%tqD{e:Expr}{t:TE}(h:%ke t)(he:∀whole,isTrue e X.env whole=(do let v←whole;standAt e.pos;%9Pv(truthy v)):=by intro _;rfl):PT X e (tB t):=by
 intro pins s σ H Q I hw;r isTrue_plain (thn (h pins s σ H _ I hw) λv s1 ⟨x,H1,I1,r1,q1⟩=>?_) (he _);o⟨d,rfl,q⟩:=q1;c r1;e wpAny_truthy_bool ⟨H1,I1,q⟩
variable{tA tB':TT}{rest:List Expr}
%dve(t u:TT):TT:=λσ H Q=>t σ H λc H1=>if c=true then u σ H1 Q else Q false H1
%dtOr(t u:TT):TT:=λσ H Q=>t σ H λc H1=>if c=true then Q true H1 else u σ H1 Q
%du5(t:TT):TT:=λσ H Q=>t σ H λc H1=>Q (!c) H1
%tmy(ha:PT X a tA):PW X (&0l.And [a]) tA:=by
 h4;r isTrue_and (thn (ha pins s σ H Q I h) λc s1 e=>?_)
 cases c with
 |true=>e isTrue_and_nil e
 |false=>e e
%tqv(ha:PT X a tA):PW X (&0l.Or [a]) tA:=by
 h4;r isTrue_or (thn (ha pins s σ H Q I h) λc s1 e=>?_)
 cases c with
 |false=>e isTrue_or_nil e
 |true=>e e
%tqz(ha:PT X a tA)(hb:PW X (&0M.And) tB'):PW X (&0s.And) (ve tA tB'):=by
 h4;r isTrue_and (thn (ha pins s σ H _ I h) λc s1 ⟨H1,I1,q1⟩=>?_)
 cases c with
 |true=>e hb wh pins s1 σ H1 Q I1 q1
 |false=>e⟨H1,I1,q1⟩
%ttX(ha:PT X a tA)(hb:PW X (&0M.Or) tB'):PW X (&0s.Or) (tOr tA tB'):=by
 h4;r isTrue_or (thn (ha pins s σ H _ I h) λc s1 ⟨H1,I1,q1⟩=>?_)
 cases c with
 |true=>e⟨H1,I1,q1⟩
 |false=>e hb wh pins s1 σ H1 Q I1 q1
%tqE(ha:PT X a tA):PT X (.UnaryOp .Not a pos) (u5 tA):=by
 j;e isTrue_not (ha pins s σ H (λc H1=>Q (!c) H1) I h)
%dtw(ta tb:TE):TE:=λσ H Q=>ta σ H λx H1=>∃c,x=.bl c∧if c=true then tb σ H1 Q else ^Nfalse H1
%du0(ta tb:TE):TE:=λσ H Q=>ta σ H λx H1=>∃c,x=.bl c∧if c=true then ^Ntrue H1 else tb σ H1 Q
%tqQ{op}{t:TE}(h:%ka t):%k(&0lop [a])t:=λpins s σ H Q I hw=>BoolOp_one (h pins s σ H Q I hw)
%tqU(ha:%6G)(hb:%k(&0M.And)tb):%k(&0s.And)(tw ta tb):=by
 j;r BoolOp_and (thn (ha pins s σ H _ I h) λv s1 ⟨x,H1,I1,r1,q1⟩=>?_);o⟨c,rfl,q1⟩:=q1;c r1;r wpAny_truthy_bool ?_
 cases c with
 |true=>e hb pins s1 σ H1 Q I1 q1
 |false=>e⟨.bl false,H1,I1,rfl,q1⟩
%tt4(ha:%6G)(hb:%k(&0M.Or)tb):%k(&0s.Or)(u0 ta tb):=by
 j;r BoolOp_or (thn (ha pins s σ H _ I h) λv s1 ⟨x,H1,I1,r1,q1⟩=>?_);o⟨c,rfl,q1⟩:=q1;c r1;r wpAny_truthy_bool ?_
 cases c with
 |false=>e hb pins s1 σ H1 Q I1 q1
 |true=>e⟨.bl true,H1,I1,rfl,q1⟩
%dtIf(t:TT)(ta tb:TE):TE:=λσ H Q=>t σ H λc H1=>if c=true then ta σ H1 Q else tb σ H1 Q
%tjn{c:Expr}(hc:PT X c tA)(ha:%6G)(hb:%kb tb):%k(.IfExp c a b pos)(tIf tA ta tb):=by
 j;r wpAny_IfExp (thn (hc pins s σ H _ I h) λd s1 ⟨H1,I1,q1⟩=>?_)
 cases d with
 |true=>e ha pins s1 σ H1 Q I1 q1
 |false=>e hb pins s1 σ H1 Q I1 q1
end
end L2
namespace L2
open PySem PySem.Spec PyProof.Rows
%dSqL(K:PySem.W.Frag)(H:Hp)(a:Addr)(xs:%c):Prop:=
 Rd H a %9D∨
  ∃(o:Obj) (its:%0G) (n:Nat),&5f=%b∧o.cls=%0c∧o.dict=none∧o.data=.seq its n∧its.size≤sizeLine∧Vals xs its.toList
%dSqT(K:PySem.W.Frag)(H:Hp)(a:Addr)(xs:%c):Prop:=
 Rd H a (.tup xs)∨
  ∃(o:Obj) (its:%0G) (n:Nat),&5f=%b∧o.cls=#M∧o.data=.seq its n∧its.size≤sizeLine∧Vals xs its.toList
%dvK:Value→Option V
 |.none=>some .non
 |.bool b=>some %7A
 |.int i _=>%0fi
 |.str x _=>some %0J
 |.bytes b _=>some (.byt b)
 |.float b _=>some (.flt b)
 |.ref a=>%ea
 |.type n=>some (.ty n)
 |_=>none
%tRelV.abs{x:V}{u:Value}(r:%4Gx):vK u=%v:=by
 cases x with
 |non=>c r;rfl
 |bl _=>c r;rfl
 |int _=>o⟨t,rfl⟩:=r;rfl
 |str _=>o⟨t,rfl⟩:=r;rfl
 |byt _=>o⟨t,rfl⟩:=r;rfl
 |flt _=>o⟨t,rfl⟩:=r;rfl
 |ref _=>c r;rfl
 |ty _=>c r;rfl
%tRelV.inj{x y:V}{u:Value}(r:%4Gx)(q:%0L):x=y:=Option.some.inj (r.abs.symm.trans q.abs)
%tVals.inj:∀{xs ys:%c} {us:%o},%4e→%4Iys→xs=ys
 |_,_,_,.nil,.nil=>rfl
 |_,_,_,%5It,.cons r' t'=>by rw[r.inj r',Vals.inj t t']
section
variable{X:Cx}{pins:List (Addr×Obj)}{σ:St}{H:Hp}{s:Shared}{a:Addr}{xs ys:List V}
%tSqL.of{K:PySem.W.Frag}(h:&Q=%9Q):SqL K H a xs:=.inl %9N
%tSqT.of{K:PySem.W.Frag}(h:&Q=&1a):SqT K H a xs:=.inl %9N
%tInv.list(I:%f)(h:SqL X.K H a xs):∃its:%o,%9W∧PlainL s.heap a its.toArray∧xs.length≤sizeLine:=by
 rcases h with h|⟨o,its,n,hk,hc,hd,hs,hz,r⟩
 ·o⟨z,its,n,r,e⟩:=h.ok I.hok;e⟨its,r,⟨_,n,e,rfl,rfl,rfl⟩,z⟩
 ·r⟨its.toList,r,⟨o,n,I.kIn a o hk,hc,hd,by simpa using hs⟩,?_⟩;h e:=r.length;s[Array.length_toList] at e;b
%tInv.tuple(I:%f)(h:SqT X.K H a xs):∃its:%o,%9W∧IsTup s.heap a its.toArray∧xs.length≤sizeLine:=by
 rcases h with h|⟨o,its,n,hk,hc,hs,hz,r⟩
 ·o⟨z,its,r,p⟩:=h.ok I.hok;e⟨its,r,p,z⟩
 ·r⟨its.toList,r,⟨o,I.kIn a o hk,hc,n,by simpa using hs⟩,?_⟩;h e:=r.length;s[Array.length_toList] at e;b
%tInv.Vt(I:%f)(h:SqL X.K H a xs)(h':SqL X.K H a ys):xs=ys:=by
 o⟨its,r,⟨o,n,e,_,_,d⟩,_⟩:=I.list h;o⟨its',r',⟨o',n',e',_,_,d'⟩,_⟩:=I.list h';rw[e] at e';c e';rw[d] at d';t8;subst this;e r.inj r'
%tInv.eG(I:%f)(h:SqT X.K H a xs)(h':SqT X.K H a ys):xs=ys:=by
 o⟨its,r,⟨o,e,_,n,d⟩,_⟩:=I.tuple h;o⟨its',r',⟨o',e',_,n',d'⟩,_⟩:=I.tuple h';rw[e] at e';c e';rw[d] at d';t8;subst this;e r.inj r'
end
abbrev Cx.KS(X:Cx)(E:Value→Shared→Prop):Cx:={X with xe:=E}
abbrev Cx.nox(X:Cx):Cx:=X.KS λ_ _=>False
%tCx.Ok.KS{X:Cx}(ok:X.Ok)(E:Value→Shared→Prop):(X.KS E).Ok:=
 ⟨ok.mod,ok.kind,ok.glob,ok.blt,ok.above,ok.inj,ok.has,ok.cab,ok.hd,ok.frames,ok.stk,ok.exf,ok.bs,ok.bsz,ok.bK,ok.b5,ok.OV,ok.frf⟩
%tCx.Ok.Im{X:Cx}{E:Value→Shared→Prop}(ok:(X.KS E).Ok):X.Ok:=
 ⟨ok.mod,ok.kind,ok.glob,ok.blt,ok.above,ok.inj,ok.has,ok.cab,ok.hd,ok.frames,ok.stk,ok.exf,ok.bs,ok.bsz,ok.bK,ok.b5,ok.OV,ok.frf⟩
section
variable{X:Cx}{pins:List (Addr×Obj)}{σ:St}{H:Hp}{s:Shared}{E:Value→Shared→Prop}
%tInv.KS(I:%f)(E:Value→Shared→Prop):%1e(X.KS E)σ H s:=⟨I.ok.KS E,I.os,I.bare,I.base,I.loc,I.cell,I.free,I.Ia,I.pin,I.hok,I.len⟩
%tInv.Im(I:%1e(X.KS E)σ H s):%f:=⟨I.ok.Im,I.os,I.bare,I.base,I.loc,I.cell,I.free,I.Ia,I.pin,I.hok,I.len⟩
%tSP.Im{D:Ends}{f:Flow}{s':Shared}(h:SP (X.KS E) pins D f s'):SP X pins D f s':=by
 cases f with
 |next=>o⟨σ',H',I,q⟩:=h;e⟨σ',H',I.Im,q⟩
 |brk=>o⟨σ',H',I,q⟩:=h;e⟨σ',H',I.Im,q⟩
 |cont=>o⟨σ',H',I,q⟩:=h;e⟨σ',H',I.Im,q⟩
 |ret u=>o⟨v,σ',H',I,r,q⟩:=h;e⟨v,σ',H',I.Im,r,q⟩
%tPE.nox{e:Expr}{t:TE}(h:PE X.nox e t):%ke t:=λpins s σ H Q I hw=>
 wpAny_mono (h pins s σ H Q (I.KS _) hw) (λ_ _ ⟨v,H',I',r,q⟩=>⟨v,H',I'.Im,r,q⟩) λ_ _ z=>%9f
%tPT.nox{e:Expr}{t:TT}(h:PT X.nox e t):PT X e t:=λpins s σ H Q I hw=>
 wpAny_mono (h pins s σ H Q (I.KS _) hw) (λ_ _ ⟨H',I',q⟩=>⟨H',I'.Im,q⟩) λ_ _ z=>%9f
%tPSs.nox{st:%0V}{t:TS}(h:PSs X.nox st t):PSs X st t:=λpins s σ H D I hw=>
 wpAny_mono (h pins s σ H D (I.KS _) hw) (λ_ _ q=>q.Im) λ_ _ z=>%9f
end
section
variable{X:Cx}{st:Stmt}{rest:List Stmt}{t u:TS}{e:Expr}{te:TE}{pos:Pos}
%dsY:TS:=λD σ H=>%5JH
%dsV(t u:TS):TS:=λD σ H=>t {D with nx:=u D} σ H
%tmF:PSs X [] sY:=λ_ _ σ H _ I h=>wpAny_execs_nil ⟨σ,H,I,h⟩
%tZu(h1:PS X st t)(h2:PSs X rest u):PSs X (st::rest) (sV t u):=by
 D;r wpAny_execs_cons (thn (h1 pins s σ H {D with nx:=u D} I h) λf s1 q=>?_)
 cases f with
 |next=>
  o⟨σ',H',I',q⟩:=q
  e h2 pins s1 σ' H' D I' q
 |ret v=>e q
 |brk=>e q
 |cont=>e q
%tYd(h1:PS X st t):PSs X [st] t:=by
 D;r wpAny_execs_cons (thn (h1 pins s σ H D I h) λf s1 q=>?_)
 cases f with
 |next=>e wpAny_execs_nil q
 |ret v=>e q
 |brk=>e q
 |cont=>e q
%tInv.quiet{pins:%G}{σ:St}{H:Hp}{s:Shared}(I:%f):interactive X.env=false:=by simp[interactive,I.ok.kind]
%dtm(te:TE):TS:=λD σ H=>te σ H λ_ H1=>%5JH1
%tmH(he:%ke te)(hs:%7Ue none X.env=%7c:=by rfl):PS X (.Expr e pos) (tm te):=by
 D;e wpAny_Expr_any (thn (he pins s σ H _ I h) λv s1 ⟨x,H1,I1,r1,q1⟩=>⟨σ,H1,I1,q1⟩) I.quiet hs
%duZ(te:TE):TS:=λD σ H=>te σ H D.rt
%tqH(he:%ke te):PS X (.Return (some e) pos) (uZ te):=by
 D;e wpAny_Return_some (thn (he pins s σ H _ I h) λv s1 ⟨x,H1,I1,r1,q1⟩=>⟨x,σ,H1,I1,r1,q1⟩)
%dsW:TS:=λD _ H=>D.rt .non H
%tmG:PS X (.Return none pos) sW:=λ_ _ σ H _ I h=>wpAny_Return_none ⟨.non,σ,H,I,rfl,h⟩
%du7(c:TT)(t u:TS):TS:=λD σ H=>c σ H λb H1=>if b=true then t D σ H1 else u D σ H1
%ttZ{c:Expr}{a b:%0V}{tc:TT}(hc:PT X c tc)(ha:PSs X a t)(hb:PSs X b u):PS X (.If c a b pos) (u7 tc t u):=by
 D;r wpAny_If (thn (hc pins s σ H _ I h) λd s1 ⟨H1,I1,q1⟩=>?_)
 cases d with
 |true=>e ha pins s1 σ H1 D I1 q1
 |false=>e hb pins s1 σ H1 D I1 q1
end
abbrev TG:=V→St→Hp→(St→Hp→Prop)→Prop
abbrev TGs:=%c→St→Hp→(St→Hp→Prop)→Prop
%dPG(X:Cx)(target:Expr)(t:TG):Prop:=
 ∀(pins:%G) (s:Shared) (σ:St) (H:Hp) (v:V) (u:Value) (Q:St→Hp→Prop),%f→%1p→t v σ H Q→
  #i(assign target X.env u)(λ_ s'=>∃σ' H',%1eX σ' H' s'∧Q σ' H')
%dPGs(X:Cx)(ts:%0i)(t:TGs):Prop:=
 ∀(pins:%G) (s:Shared) (σ:St) (H:Hp) (vs:%c) (us:%o) (Q:St→Hp→Prop),%f→%8u→t vs σ H Q→
  #i(assignInOrder ((&5bts).map (·.2)) us)(λ_ s'=>∃σ' H',%1eX σ' H' s'∧Q σ' H')
abbrev TIp:=V→V→Hp→VK→Prop
%dPIp(X:Cx)(op:Operator)(t:TIp):Prop:=
 ∀(pins:%G) (s:Shared) (σ:St) (H:Hp) (x y:V) (v u:Value) (Q:VK),%f→%5K→%0L→t x y H Q→
  #i(inplaceOp op v u)(EP X pins σ Q)
section
variable{X:Cx}{pos:Pos}
%dXf(i:Nat):TG:=λv σ H Q=>Q &5l H
%tDy{i:Nat}{x:Str}(hN:X.N.Nodup)(hi:X.N[i]? =%v)(hx:&1Mx)(hf:%9O=true∨%8U=%0U:=by first|e %U|e %1j|assumption):PG X %9C (Xf i):=by
 intro pins s σ H v u Q I r h;e wpAny_assign_Name (Qr I hN hi hx r (λs' I'=>⟨_,H,I',h⟩) hf)
%duA:TGs:=λvs σ H Q=>vs=[]∧Q σ H
%dj6(t:TG)(u:TGs):TGs:=λvs σ H Q=>∃v r,vs=v::r∧t v σ H λσ' H'=>u r σ' H' Q
%tcW:PGs X [] uA:=by
 n1;o⟨e,h⟩:=h;p;c r;e assignInOrder_nil ⟨σ,H,I,h⟩
%tRc{e:Expr}{es:%0i}{t:TG}{u:TGs}(h1:PG X e t)(h2:PGs X es u)
 (hs:(&5b(e::es)).map (·.2)=assign e X.env::(&5bes).map (·.2):=by rfl):PGs X (e::es) (j6 t u):=by
 n1;o⟨v,vr,e1,h⟩:=h;subst e1
 cases r with
 |cons r rr=>
  rw[hs];r assignInOrder_cons (thn (h1 pins s σ H _ _ _ I r h) λ_ s1 ⟨σ1,H1,I1,q1⟩=>?_);e h2 pins s1 σ1 H1 _ _ Q I1 rr q1
%duz(K:PySem.W.Frag)(n:Nat)(t:TGs):TG:=λv σ H Q=>∃a xs,v=%N∧SqT K H a xs∧xs.length=n∧t xs σ H Q
%tjh{es:%0i}{k:Nat}{t:TGs}{n:Nat}(hc:X.calm=true)(h:PGs X es t)
 (hn:(&5bes).length=n:=by rfl) (hst:(&5bes).findIdx? (·.1)=none:=by rfl):PG X (.Tuple es k pos) (uz X.K n t):=by
 intro pins s σ H v u Q I r hw;o⟨a,xs,e1,hq,hl,hw⟩:=hw;subst e1;c r;o⟨its,rv,ht,hz⟩:=I.tuple hq;r assign_Tuple_tuple %3f ht (by simp[hn,←hl,rv.length]) hst λh' hx=>?_;h I1:&2J:=I.kept (t':=s.toks) λb o e=>hx b o (Nat.ne_of_lt %4D) e;e h pins _ σ H xs _ Q I1 (by simpa using rv) hw
%dvd(te:TE)(g:TG):TS:=λD σ H=>te σ H λx H1=>g x σ H1 D.nx
%tqG{i:Nat}{x:Str}{e:Expr}{te:TE}{pos':Pos}(hN:X.N.Nodup)(hi:X.N[i]? =%v)(hx:&1Mx)(he:%ke te)(hs:%7Ue(some (%7qpos'))X.env=%7c:=by rfl)(hf:%9O=true∨%8U=%0U:=by first|e %U|e %1j|assumption):
 PS X (&1g[%7qpos']e) (vd te (Xf i)):=by
 D;r wpAny_Assign_Name (thn (he pins s σ H _ I h) λv s1 ⟨y,H1,I1,r1,q1⟩=>?_) hs;e Qr I1 hN hi hx r1 (λs2 I2=>⟨_,H1,I2,q1⟩) hf
%dvc(i:Nat)(te:TE)(ti:TIp):TS:=λD σ H=>∃x,σ[i]? =&5q∧te σ H λy H1=>ti x y H1 λz H2=>D.nx (%8o%9U) H2
%tqJ{i:Nat}{x:Str}{e:Expr}{te:TE}{op:Operator}{ti:TIp}{pos':Pos}(hN:X.N.Nodup)(hi:X.N[i]? =%v)(hx:&1Mx)(he:%ke te)(ho:PIp X op ti)(hf:%9O=true∨%8U=%0U:=by first|e %U|e %1j|assumption):
 PS X (.AugAssign (%7qpos') op e pos) (vc i te ti):=by
 D;o⟨v,e1,h⟩:=h;i2;h vis:&5kx:=by rcases hx with k|k;e .inl k;e %7Ok
 o⟨u,r,l⟩:=hl i x v hi e1 vis;r wpAny_AugAssign_Name ?_
 h go:#i#u(λw s₂=>%1y(inplaceOp op u w)(λr s₃=>%1y(storeName X.env x r)(λ_=>SP X pins D .next)s₃)s₂):=by
  r thn (he pins s σ H _ I h) λw s1 ⟨y,H1,I1,r1,q1⟩=>?_;r thn (ho pins s1 σ H1 v y u w _ I1 r r1 q1) λz s2 ⟨zv,H2,I2,r2,q2⟩=>?_;e Qr I2 hN hi hx r2 (λs3 I3=>⟨_,H2,I3,q2⟩) hf
 rcases l with⟨hk,hm⟩|⟨hk,c,hc,hcell⟩
 ·e wpAny_loadName_local I.ok.kind hk hn hm go
 ·rcases hk with hk|hk
  ·e wpAny_loadName_cell I.ok.kind hk hc hcell go
  ·rcases hx with k|k
   ·h:%8U=%6c:=hk;rw[k] at this;c this
   ·h:%8U=%6c:=hk;rw[k] at this;c this
%dipI(f:Int→Int→Int):TIp:=λx y H Q=>∃i j,x=^x∧y=%4f∧%4o(f i j)H
%tYB:PIp X .Add (ipI λi j=>i+j):=by
 intro pins s σ H x y v u Q I r1 r2 h;o⟨i,j,e1,e2,q⟩:=h;subst e1;subst e2;o⟨t,rfl⟩:=r1;o⟨t',rfl⟩:=r2;e iadd_int (%6C(.int _)H%6x q)
end
section
variable{X:Cx}{pos:Pos}
%dpZ(c:TT)(tb:TS):TS:=λD σ H=>∃W:Nat→St→Hp→Prop,(∃m,W m σ H)∧∀m σ H,W m σ H→
 c σ H λb H1=>if b=true then∃N:St→Hp→Prop,(∀σ' H',N σ' H'→∃m',m'<m∧W m' σ' H')∧tb {D with nx:=N,ct:=N,bk:=D.nx} σ H1 else %5JH1
%tje{c:Expr}{body:%0V}{tc:TT}{tb:TS}(hp:PassesOwn %6i X.A X.env X.xe)(hc:PT X c tc)(hb:PSs X body tb):PS X (.While c body [] pos) (pZ tc tb):=by
 D;o⟨W,⟨m0,w0⟩,turn⟩:=h;r wpAny_While (codeAny_whileLoop (λn s'=>∃σ' H',%1eX σ' H' s'∧W n σ' H') ?_ m0 ⟨σ,H,I,w0⟩);rintro n s1 ⟨σ1,H1,I1,w1⟩;r &4K(thn (hc pins s1 σ1 H1 _ I1 (turn n σ1 H1 w1)) λb s2 ⟨H2,I2,q2⟩=>?_)
 cases b with
 |true=>
  o⟨N,hN,q2⟩:=q2;rw[if_pos rfl];r &4K(thn (hb pins s2 σ1 H2 _ I2 q2) λf s3 q3=>?_)
  cases f with
  |next=>
   o⟨σ3,H3,I3,n3⟩:=q3;o⟨m',hm,w3⟩:=hN σ3 H3 n3
   e⟨m',hm,σ3,H3,I3,w3⟩
  |cont=>
   o⟨σ3,H3,I3,n3⟩:=q3;o⟨m',hm,w3⟩:=hN σ3 H3 n3
   e⟨m',hm,σ3,H3,I3,w3⟩
  |brk=>e q3
  |ret v=>e q3
 |false=>
  rw[if_neg Bool.false_ne_true];e wpAny_execs_nil ⟨σ1,H2,I2,q2⟩
end
structure It where
 go:Nat→Hp→Prop
 yld:Nat→Hp→V→Hp→Prop
 stop:Nat→Hp→Prop
%dUt(X:Cx)(pins:%G)(H:Hp)(b:Addr):Prop:=
 %O=none∧b≠X.env.locals∧b∉X.fs∧(b∈X.ex∨X.s_0.heap.objs.size≤b)∧(∀x c,%3G=&q→c≠b)∧∀p∈X.pn++pins,p.1≠b
%tInv.bZ{X:Cx}{pins:%G}{σ:St}{H H':Hp}{s:Shared}{b:Addr}(I:%f)(hb:s.heap.objs.size≤b)(hn:%0C=none):Ut X pins H' b:=by
 r⟨hn,Nat.ne_of_gt (Nat.lt_of_lt_of_le I.lt hb),I.vt hb,.inr (Nat.le_trans I.sz hb),λx c e z=>?_,λp hp z=>?_⟩
 ·o⟨v,q⟩:=I.cell x c e;e %4v(Nat.lt_of_lt_of_le q.lt (by rw[z];e hb))_
 ·e %4v(Nat.lt_of_lt_of_le (Heap.lt_size (I.pin p hp).1) (by rw[z];e hb))_
structure Turn(P:Program)(w:World)(K:PySem.W.Frag)(tg:Expr)(J:It)(fp:&H)(it:Addr)(tn:Nat→Heap→Prop):Prop where
 mem:it∈fp
 obj:∀i h,tn i h→∀b∈fp,∃o,#W=%b∧∀v,o.data≠.cell v
 keep:∀i h h',tn i h→(∀b∈fp,∀o,#W=%b→#Q=%b)→tn i h'
 item:∀(X:Cx),X.prog=P→X.w=w→X.K=K→X.calm=true→∀(i:Nat) (pins:%G) (s:Shared) (σ:St) (H:Hp) (E:Value→Shared→Prop),%f→(∀b∈fp,Ut X pins H b)→tn i s.heap→J.go i H→
  wpAny (model P w) X.A &6E (λr s1=>∃u,r=%x∧
   wpAny (model P w) X.A (letOwnedTupleGo tg %4M u) (λ_ s2=>∃x H',&OH' s2∧%4Gx∧J.yld i H x H'∧tn (i+1) s2.heap∧∀b∈fp,%0C=none) E s1) E s
 done:∀(X:Cx),X.prog=P→X.w=w→X.K=K→X.calm=true→∀(i:Nat) (pins:%G) (s:Shared) (σ:St) (H:Hp) (E:Value→Shared→Prop),%f→(∀b∈fp,Ut X pins H b)→tn i s.heap→J.stop i H→
  wpAny (model P w) X.A &6E (λr s1=>r=none∧%3cs1) E s
 self:∀(A:Around) (i:Nat) (s:Shared) (Q:Value→Shared→Prop) (E:Value→Shared→Prop),tn i s.heap→Q %4M s→wpAny (model P w) A (pyIter %4M) Q E s
abbrev TI:=St→Hp→(It→Hp→Prop)→Prop
%dPIE(X:Cx)(pins:%G)(σ:St)(tg:Expr)(R:It→Hp→Prop)(itv:Value)(s2:Shared):Prop:=
 ∃(it:Addr) (fp:&H) (tn:Nat→Heap→Prop) (J:It) (H':Hp),itv=%4M∧&OH' s2∧Turn X.prog X.w X.K tg J fp it tn∧tn 0 s2.heap∧(∀b∈fp,Ut X pins H' b)∧R J H'
%dPI(X:Cx)(tg iter:Expr)(wi:TI):Prop:=
 ∀(pins:%G) (s:Shared) (σ:St) (H:Hp) (R:It→Hp→Prop),%f→wi σ H R→
  #i(#Biter)(λv s1=>%1y(pyIter v)(PIE X pins σ tg R)s1)
%tXd{M:Model}{A:Around}{E:Value→Shared→Prop}{s:Shared}{tg:Expr}{it:Addr}{u:Value}{o:Obj}{n:String}{vs:%0G}{Q:Unit→Shared→Prop}(ho:s.heap.get? it=%b)(hc:o.cls=.type n)(hd:o.data=&3E)
 (hn:["enumerate","zip","dict_itemiterator","dict_reverseitemiterator","odict_iterator","itertools.zip_longest","itertools.pairwise"].contains n=false) (hQ:Q () s):#AM A(letOwnedTupleGo tg %4M u)Q E:=by
 u letOwnedTupleGo
 c tg<;>first
  |e wpAny_pure hQ
  |(c u<;>first
     |e wpAny_pure hQ
     |(r wpAny_bind (wpAny_load ho ?_)
       rw[hc,hd];show #AM A(if(["enumerate","zip","dict_itemiterator","dict_reverseitemiterator","odict_iterator","itertools.zip_longest","itertools.pairwise"].contains n&&vs[0]? ==some (rawInt _))=true then _ else _)Q E;rw[if_neg (by intro h;rw[hn,Bool.false_and] at h;c h)]
       e wpAny_pure hQ))
%dItl(K:PySem.W.Frag)(a:Addr):It:=
 ⟨λi H=>∃xs x,SqL K H a xs∧xs[i]? =%v,λi H x H'=>H'=H∧∀xs,SqL K H a xs→xs[i]? =%v,λi H=>∃xs,SqL K H a xs∧xs.length≤i⟩
%dItt(K:PySem.W.Frag)(a:Addr):It:=
 ⟨λi H=>∃xs x,SqT K H a xs∧xs[i]? =%v,λi H x H'=>H'=H∧∀xs,SqT K H a xs→xs[i]? =%v,λi H=>∃xs,SqT K H a xs∧xs.length≤i⟩
%dItr(lo:Int)(n:Nat):It:=⟨λi _=>i<n,λi H x H'=>H'=H∧x=.int (lo+i),λi _=>n≤i⟩
%teC{P:Program}{w:World}{K:PySem.W.Frag}{tg:Expr}(a it:Addr):Turn P w K tg (Itl K a) [it] it (λi h=>h.IsListIter it a i) where
 mem:=by simp
 obj:=λi h st b hb=>by
  b6;k9
 keep:=λi h h' st k=>st.at λo e=>%6vit o e
 item:=by
  H;o⟨xs,x,hq,hx⟩:=hg;h9;o⟨u,hu,ru⟩:=rv.get hx;N;r wpAny_pyNext_list_item st p.isList (x:=u) (by simpa using hu) λh' st' sb=>?_;s4;e⟨u,rfl,Xd (s:={s with heap:=h'}) e c d (by decide) ⟨x,H,I1,ru,%4i(λys hy=>by rw[I.Vt hy hq];e hx),st',λb hb=>(hf b hb).1⟩⟩
 done:=by
  H;o⟨xs,hq,hx⟩:=hg;h9;N;h hl:=rv.length;e wpAny_pyNext_list_end %3f st p.isList (by simp;omega) λh' eb=>⟨rfl,%5U(λb o hb e=>eb b o hb e)f0 f1 f3 f4 f5⟩
 self:=λ_ _ _ _ _ st h=>wpAny_pyIter_listiter st h
%taS{P:Program}{w:World}{K:PySem.W.Frag}{tg:Expr}(a it:Addr):Turn P w K tg (Itt K a) [it] it (λi h=>h.IsTupleIter it a i) where
 mem:=by simp
 obj:=λi h st b hb=>by
  b6;k9
 keep:=λi h h' st k=>st.at λo e=>%6vit o e
 item:=by
  H;o⟨xs,x,hq,hx⟩:=hg;o⟨its,rv,p,hz⟩:=I.tuple hq;o⟨u,hu,ru⟩:=rv.get hx;N;r wpAny_pyNext_tuple_item st (show s.heap.IsTuple a its.toArray from p) (x:=u) (by simpa using hu) λh' st' sb=>?_;s4;e⟨u,rfl,Xd (s:={s with heap:=h'}) e c d (by decide) ⟨x,H,I1,ru,%4i(λys hy=>by rw[I.eG hy hq];e hx),st',λb hb=>(hf b hb).1⟩⟩
 done:=by
  H;o⟨xs,hq,hx⟩:=hg;o⟨its,rv,p,hz⟩:=I.tuple hq;N;h hl:=rv.length;e wpAny_pyNext_tuple_end %3f st (show s.heap.IsTuple a its.toArray from p) (by simp;omega) λh' eb=>⟨rfl,%5U(λb o hb e=>eb b o hb e)f0 f1 f3 f4 f5⟩
 self:=λ_ _ _ _ _ st h=>wpAny_pyIter_tupleiter st h
%taT{P:Program}{w:World}{K:PySem.W.Frag}{tg:Expr}(it:Addr)(lo:Int)(n:Nat):Turn P w K tg (Itr lo n) [it] it (λi h=>IsRangeIter h it (lo+(i:Nat)*1) ((n:Int)-(i:Nat)) 1) where
 mem:=by simp
 obj:=λi h st b hb=>by
  b6
  e⟨_,st,λv z=>by
   h z':Data.fields _=Data.cell v:=z
   c z'⟩
 keep:=λi h h' st k=>%6vit _ st
 item:=by
  H;N;h W:=Walks.range (prog:=X.prog) (w:=X.w) %3f it lo 1 n;r W.item i s _ _ hg st λv h' tk hv st' kk=>?_;o⟨t,rfl⟩:=hv;q4;r⟨_,rfl,Xd (s:={s with heap:=h',toks:=tk}) (n:="range_iterator") st' rfl rfl (by decide) ⟨.int (lo+i),H,I1,⟨t,?_⟩,%5Vrfl,st',λb hb=>(hf b hb).1⟩⟩;rw[Int.mul_one]
 done:=by
  H;N;e wpAny_pyNext_range_end %3f st (by h:n≤i:=hg;omega) λh' eb=>⟨rfl,%5U(λb o hb e=>eb b o hb e)f0 f1 f3 f4 f5⟩
 self:=λ_ _ _ _ _ st h=>wpAny_pyIter_rangeiter st h
end L2
namespace L2
open PySem PySem.Spec PyProof.Rows
section
variable{X:Cx}{tg:Expr}
%duv(K:PySem.W.Frag)(tl:TE):TI:=λσ H R=>tl σ H λx H1=>∃a,x=%N∧(∃xs,SqL K H1 a xs)∧R (Itl K a) H1
%dvz(K:PySem.W.Frag)(tl:TE):TI:=λσ H R=>tl σ H λx H1=>∃a,x=%N∧(∃xs,SqT K H1 a xs)∧R (Itt K a) H1
%tmQ{l:Expr}{tl:TE}(hl:%kl tl):PI X tg l (uv X.K tl):=by
 Z;r8;p;c r1;o⟨its,rv,p,hz⟩:=I1.list hq;r wpAny_pyIter_list p.isList ?_;r⟨s1.heap.objs.size,[s1.heap.objs.size],_,_,H1,rfl,I1.kept (t':=s1.toks) λb o e=>%5C,eC a _,⟨_,^l,rfl,rfl⟩,λb hb=>?_,q⟩;h e:b=s1.heap.objs.size:=by simpa using hb
 p;e I1.bZ %L &4v
%tqL{l:Expr}{tl:TE}(hl:%kl tl):PI X tg l (vz X.K tl):=by
 Z;r8;p;c r1;o⟨its,rv,p,hz⟩:=I1.tuple hq;r wpAny_pyIter_tuple (show s1.heap.IsTuple a its.toArray from p) ?_;r⟨s1.heap.objs.size,[s1.heap.objs.size],_,_,H1,rfl,I1.kept (t':=s1.toks) λb o e=>%5C,aS a _,⟨_,^l,rfl,rfl⟩,λb hb=>?_,q⟩;h e:b=s1.heap.objs.size:=by simpa using hb
 p;e I1.bZ %L &4v
%tZs{pins:%G}{σ:St}{H:Hp}{s:Shared}{R:It→Hp→Prop}{E:Value→Shared→Prop}{lo hi:Int}{t u v:Tok}{tk:Nat}(I:%f)(h1:-(2^62)≤lo)(h2:lo<2^62)(h3:-(2^62)≤hi)(h4:hi<2^62)
 (q:R (Itr lo (hi-lo).toNat) H):%4x(pyIter %6R)(PIE X pins σ tg R)E {s with heap:=s.heap.push {cls:=&3f,data:=.fields #[.int lo t,.int hi u,.int 1 v]},toks:=tk}:=by
 r wpAny_pyIter_range (IsRange.new ..) (small_one h1 h2 h3 h4) ?_;h I1:%3c{s with heap:=s.heap.push {cls:=&3f,data:=.fields #[.int lo t,.int hi u,.int 1 v]},toks:=tk}:=I.kept λb o e=>%5C
 r⟨(s.heap.push {cls:=&3f,data:=.fields #[.int lo t,.int hi u,.int 1 v]}).objs.size,[(s.heap.push {cls:=&3f,data:=.fields #[.int lo t,.int hi u,.int 1 v]}).objs.size],_,_,H,rfl,
  I1.kept (t':=tk) λb o e=>%5C,aT _ lo (hi-lo).toNat,?_,λb hb=>?_,q⟩
 ·h e1:lo+((0:Nat):Int)*1=lo:=by simp
  h e2:(((hi-lo).toNat:Nat):Int)-((0:Nat):Int)=Builtin.Range.rangeSize lo hi 1:=by rw[rangeSize_one];split<;>omega
  show IsRangeIter _ _ (lo+((0:Nat):Int)*1) ((((hi-lo).toNat:Nat):Int)-((0:Nat):Int)) 1;rw[e1,e2];e ^l
 ·h e:b=(s.heap.push {cls:=&3f,data:=.fields #[.int lo t,.int hi u,.int 1 v]}).objs.size:=by simpa using hb
  p;e I1.bZ %L &4v
%duu(ta:TA):TI:=λσ H R=>ta σ H λvs H1=>∃j:Int,vs=[.int j]∧-(2^62)≤j∧j<2^62∧R (Itr 0 j.toNat) H1
%dur(ta:TA):TI:=λσ H R=>ta σ H λvs H1=>∃i j:Int,vs=[.int i,%4f]∧(-(2^62)≤i∧i<2^62∧-(2^62)≤j∧j<2^62)∧R (Itr i (j-i).toNat) H1
%tfA{a:Expr}{ta:TA}{p pos:Pos}(hg:Gl X "range")(hm:&6J=none)(ha:PA X [a] ta)(hs:%5Ma=[(false,%5B)]:=by rfl):PI X tg (%6H"range"p [a]) (uu ta):=by
 Z;r Call_ (Qc I hg hm boot_range (PyProof.Rows.callWith_type1 (thn (ha pos pins s σ H _ I h) λus s1 ⟨vs,H1,I1,r1,q1⟩=>?_) hs rfl));o⟨j,e,q1,q2,q⟩:=q1;p
 cases r1 with
 |cons r rr=>
  c rr;c0;e call_range_1 (Zs I1 %w %w q1 q2 (by simpa using q))
%tfz{a b:Expr}{ta:TA}{p pos:Pos}(hg:Gl X "range")(hm:&6J=none)(ha:PA X [a,b] ta)(hs:%4u[a,b]=[(false,%5B),(false,#Bb)]:=by rfl)(hs2:%5Mb=[(false,#Bb)]:=by rfl):
 PI X tg (%6H"range"p [a,b]) (ur ta):=by
 Z;r Call_ (Qc I hg hm boot_range (PyProof.Rows.callWith_type1 (thn (ha pos pins s σ H _ I h) λus s1 ⟨vs,H1,I1,r1,q1⟩=>?_) (by rw[hs,hs2]) (by rw[hs2];rfl)));o⟨i,j,e,⟨q1,q2,q3,q4⟩,q⟩:=q1;p
 cases r1 with
 |cons r rr=>
  cases rr with
  |cons r' rr=>
   c rr;c0;o⟨t',rfl⟩:=r';e call_range_2 (Zs I1 q1 q2 q3 q4 q)
%du9(wi:TI)(g:TG)(tb:TS):TS:=λD σ H=>wi σ H λJ H1=>∃W:Nat→Nat→St→Hp→Prop,(∃m,W 0 m σ H1)∧∀i m σ H,W i m σ H→
 (J.stop i H∧%5JH)∨(J.go i H∧∃N:St→Hp→Prop,(∀σ' H',N σ' H'→∃m',m'<m∧W (i+1) m' σ' H')∧∀x H',J.yld i H x H'→g x σ H' λσ2 H2=>tb {D with nx:=N,ct:=N,bk:=D.nx} σ2 H2)
%dU3(fp:&H)(h:Heap):%G:=fp.filterMap λb=>#W.map λo=>(b,o)
%tQa{fp:&H}{h:Heap}{b:Addr}{o:Obj}(hb:b∈fp)(e:#W=%b):(b,o)∈U3 fp h:=List.mem_filterMap.mpr ⟨b,hb,by rw[e];rfl⟩
%tfH{fp:&H}{h:Heap}{p:Addr×Obj}(hp:p∈U3 fp h):p.1∈fp∧h.get? p.1=some p.2:=by
 o⟨b,hb,e⟩:=List.mem_filterMap.mp hp
 cases q:#W with
 |none=>rw[q] at e;c e
 |some o=>
  O;h e':(b,o)=p:=Option.some.inj e;subst e';e⟨hb,q⟩
%tInv.pinned{pins:%G}{σ:St}{H:Hp}{s:Shared}{fp:&H}(I:%f)(hf:∀b∈fp,Ut X pins H b)(ho:∀b∈fp,∃o,%0t=%b∧∀v,o.data≠.cell v):Inv X (pins++U3 fp s.heap) σ H s:=
 I.Rb λp hp=>(List.mem_append.mp hp).elim (λz=>I.pin p (%8Vz)) λz=>by
  o⟨hb,e⟩:=fH z;o⟨f0,f1,f2,_⟩:=hf p.1 hb;o⟨o,e',d⟩:=ho p.1 hb;rw[e] at e';c e';e⟨e,f0,f1,f2,d⟩
%tInv.Qo{pins pl:%G}{σ:St}{H:Hp}{s:Shared}(I:Inv X (pins++pl) σ H s):%f:=I.Rb λp hp=>I.pin p (%8V(&6nhp))
%tbB{iter:Expr}{body:%0V}{wi:TI}{g:TG}{tb:TS}{pos:Pos}(hp:PassesOwn %6i X.A X.env X.xe)(hc:X.calm=true)(hi:PI X tg iter wi)(hg:PG X tg g)(hb:PSs X body tb)
 (hs:∀x,&1witer x=%1M:=by intro _;rfl):PS X (.For tg iter body [] pos) (u9 wi g tb):=by
 D;r wpAny_For (thn (hi pins s σ H _ I h) λv s1 h1=>thn h1 λitv s2 h2=>?_) hs;o⟨it,fp,tn,J,H2,e,I2,T,st2,f2,W,⟨m0,w0⟩,turn⟩:=h2;p;h stat:∀{H':Hp},(∀b∈fp,%0C=none)→∀b∈fp,Ut X pins H' b:=λhn b hb=>⟨hn b hb,(f2 b hb).2⟩;r codeAny_forLoop_any (λn s'=>∃i σ' H',%1eX σ' H' s'∧tn i s'.heap∧(∀b∈fp,%0C=none)∧W i n σ' H') ?_ m0 ⟨0,σ,H2,I2,st2,λb hb=>(f2 b hb).1,w0⟩;rintro n s3 ⟨i,σ3,H3,I3,st3,fr3,w3⟩;rcases turn i n σ3 H3 w3 with⟨stop,qn⟩|⟨go,N,hN,step⟩
 ·r wpAny_passesOwn hp (thn (T.done X rfl rfl rfl hc i pins s3 σ3 H3 X.xe I3 (stat fr3) st3 stop) λr s4 ⟨hr,I4⟩=>?_);subst hr;e wpAny_execs_nil ⟨σ3,H3,I4,qn⟩
 ·r wpAny_passesOwn hp (thn (T.item X rfl rfl rfl hc i pins s3 σ3 H3 X.xe I3 (stat fr3) st3 go) λr s4 ⟨u,hr,h4⟩=>?_);subst hr;r &4K(thn h4 λ_ s5 ⟨x,H5,I5,r5,y5,st5,fr5⟩=>?_);h I5':=I5.pinned (stat fr5) (T.obj _ _ st5);r &4K(thn (hg _ s5 σ3 H5 x u _ I5' r5 (step x H5 y5)) λ_ s6 ⟨σ6,H6,I6,q6⟩=>?_);r &4K(thn (hb _ s6 σ6 H6 _ I6 q6) λf s7 q7=>?_)
  h again:∀{σ7:St} {H7:Hp},Inv X (pins++U3 fp s5.heap) σ7 H7 s7→N σ7 H7→∃m,m<n∧∃i σ' H',%1eX σ' H' s7∧tn i s7.heap∧(∀b∈fp,%0C=none)∧W i m σ' H':=λ{σ7 H7} I7 n7=>by
   o⟨m',hm,w7⟩:=hN σ7 H7 n7;r⟨m',hm,i+1,σ7,H7,I7.Qo,T.keep _ _ _ st5 λb hb o e=>(I7.pin (b,o) (%8V(%8V(Qa hb e)))).1,λb hb=>?_,w7⟩;o⟨o,e,d⟩:=T.obj _ _ st5 b hb;e(I7.pin (b,o) (%8V(%8V(Qa hb e)))).2.1
  cases f with
  |next=>o⟨σ7,H7,I7,n7⟩:=q7;e again I7 n7
  |cont=>o⟨σ7,H7,I7,n7⟩:=q7;e again I7 n7
  |brk=>o⟨σ7,H7,I7,q7⟩:=q7;e⟨σ7,H7,I7.Qo,q7⟩
  |ret v=>o⟨x7,σ7,H7,I7,r7,q7⟩:=q7;e⟨x7,σ7,H7,I7.Qo,r7,q7⟩
end
end L2
namespace L2
open PySem PySem.Spec PyProof.Rows
abbrev R2:=V→V→Hp→VK→Prop
%dOpR(X:Cx)(f:Value→Value→%6e)(r:R2):Prop:=
 ∀(pins:%G) (s:Shared) (σ:St) (H:Hp) (x y:V) (v u:Value) (Q:VK),%f→%5K→%0L→r x y H Q→
  #i(f v u)(EP X pins σ Q)
%dUnR(X:Cx)(f:Value→%6e)(r:V→Hp→VK→Prop):Prop:=
 ∀(pins:%G) (s:Shared) (σ:St) (H:Hp) (x:V) (v:Value) (Q:VK),%f→%5K→r x H Q→
  #i(f v)(EP X pins σ Q)
%dHq(X:Cx)(f:Value)(r:%c→Hp→VK→Prop):Prop:=
 ∀(pins:%G) (s:Shared) (σ:St) (H:Hp) (xs:%c) (us:%o) (Q:VK),%f→%4e→r xs H Q→
  #i(call f us)(EP X pins σ Q)
%dvL(X:Cx)(r:V→Hp→(Bool→Hp→Prop)→Prop):Prop:=
 ∀(pins:%G) (s:Shared) (σ:St) (H:Hp) (x:V) (v:Value) (Q:Bool→Hp→Prop),%f→%5K→r x H Q→
  #i(truthy v)(TP X pins σ Q)
%dtOp(r:R2)(ta tb:TE):TE:=λσ H Q=>ta σ H λx H1=>tb σ H1 λy H2=>r x y H2 Q
%dtUn(r:V→Hp→VK→Prop)(ta:TE):TE:=λσ H Q=>ta σ H λx H1=>r x H1 Q
%drI(C:Int→Int→Prop)(g:Int→Int→V):R2:=λx y H Q=>∃i j,x=^x∧y=%4f∧C i j∧Q (g i j) H
%drI0(g:Int→Int→V):R2:=λx y H Q=>∃i j,x=^x∧y=%4f∧Q (g i j) H
%drU(g:Int→V):V→Hp→VK→Prop:=λx H Q=>∃i,x=^x∧Q (g i) H
section
variable{X:Cx}{a b c:Expr}{ta tb tc:TE}{pos:Pos}
%tsi(ha:%6G)(hb:%kb tb){pins:%G}{s:Shared}{σ:St}{H:Hp}{R:V→V→Hp→Prop}(I:%f)
 (h:ta σ H λx H1=>tb σ H1 λy H2=>R x y H2) {Q:Value→Shared→Prop} {f:Value→Value→%6e}
 (hf:∀v u s2 x y H2,&OH2 s2→%5K→%0L→R x y H2→%1y(f v u)Q s2):
 #i%5B(λv s₁=>%1y(#Bb)(λu s₂=>%1y(f v u)Q s₂)s₁):=by
 p3;e hf v u s2 x y H2 I2 r1 r2 q2
%tt5{op:Operator}{r:R2}(ho:%9AX op r)(ha:%6G)(hb:%kb tb):%k(.BinOp a op b pos)(tOp r ta tb):=by
 j;e wpAny_BinOp (si ha hb I h λv u s2 x y H2 I2 rx ry q=>ho pins s2 σ H2 x y v u Q I2 rx ry q)
%tpA{op:UnaryOp}{r:V→Hp→VK→Prop}(ho:UnR X (unaryOp op) r)(ha:%6G):%k(.UnaryOp op a pos)(tUn r ta):=by
 j;e UnaryOp_ (thn (ha pins s σ H _ I h) λv s1 ⟨x,H1,I1,r1,q1⟩=>ho pins s1 σ H1 x v Q I1 r1 q1)
%topI{f:Value→Value→%6e}{C:Int→Int→Prop}{g:Int→Int→Int}
 (rule:∀(i j:Int) (t u:Tok) (s:Shared) (Q:Value→Shared→Prop) (E:Value→Shared→Prop),C i j→&4t(.int (g i j) s.toks)→%4x(f (.int i t) (.int j u))Q E s):
 OpR X f (rI C λi j=>.int (g i j)):=by
 M;o⟨i,j,rfl,rfl,hc,q⟩:=h;x;a3;e rule i j t t' s _ _ hc (%6C(.int (g i j))H%6x q)
%tra{f:Value→Value→%6e}{g:Int→Int→Int}
 (rule:∀(i j:Int) (t u:Tok) (s:Shared) (Q:Value→Shared→Prop) (E:Value→Shared→Prop),&4t(.int (g i j) s.toks)→%4x(f (.int i t) (.int j u))Q E s):
 OpR X f (rI0 λi j=>.int (g i j)):=by
 M;o⟨i,j,rfl,rfl,q⟩:=h;x;a3;e rule i j t t' s _ _ (%6C(.int (g i j))H%6x q)
%tnk{f:Value→Value→%6e}{g:Int→Int→Bool}
 (rule:∀(i j:Int) (t u:Tok) (s:Shared) (Q:Value→Shared→Prop) (E:Value→Shared→Prop),Q (.bool (g i j)) s→%4x(f (.int i t) (.int j u))Q E s):
 OpR X f (rI0 λi j=>.bl (g i j)):=by
 M;o⟨i,j,rfl,rfl,q⟩:=h;x;a3;e rule i j t t' s _ _ ⟨.bl (g i j),H,I,rfl,q⟩
%doY(i j:Int):Prop:=(-(2^64)<i∧i<2^64)∨(-(2^64)<j∧j<2^64)
%toY.ok{i j:Int}(h:oY i j):IntMulOk i j:=by
 rcases h with⟨h1,h2⟩|⟨h1,h2⟩
 ·e .of_left (intBits_le_64 h1 h2)
 ·e .of_right (intBits_le_64 h1 h2)
%taR(k:Nat):(0:Int)≤2^k:=by
 rw[two_pow_cast];e Int.natCast_nonneg _
%tPZ:%9AX .Add(rI0 λi j=>#c):=ra λ_ _ _ _ _ _ _ q=>add_int q
%tU5:%9AX .Sub(rI0 λi j=>%8b):=ra λ_ _ _ _ _ _ _ q=>sub_int q
%tqZ:%9AX .Mult(rI oY λi j=>.int (i*j)):=opI λ_ _ _ _ _ _ _ hc q=>mul_int q hc.ok
%tqX:%9AX .RShift(rI (λ_ j=>0≤j) λi j=>.int (i/2^j.toNat)):=opI λi j _ _ _ _ _ hc q=>
 rshift_int hc (by rw[Int.fdiv_eq_ediv_of_nonneg i (aR _)];e q)
%tq0:%9AX .BitAnd(rI0 λi j=>.int (Builtin.bitAnd i j)):=ra λ_ _ _ _ _ _ _ q=>and_int q
%tunI{f:Value→%6e}{g:Int→Int}
 (rule:∀(i:Int) (t:Tok) (s:Shared) (Q:Value→Shared→Prop) (E:Value→Shared→Prop),&4t(.int (g i) s.toks)→%4x(f (.int i t))Q E s):
 UnR X f (rU λi=>.int (g i)):=by
 intro pins s σ H x v Q I rx h;o⟨i,rfl,q⟩:=h;x;e rule i t s _ _ (%6C(.int (g i))H%6x q)
%tPK:UnR X (unaryOp .USub) (rU λi=>%9v):=unI λ_ _ _ _ _ q=>neg_int q
end
%dtF:V→V→Bool
 |.non,.non=>true|.non,.int _=>true|.int _,.non=>true|.non,.bl _=>true|.bl _,.non=>true|.non,.str _=>true|.str _,.non=>true
 |.int _,.int _=>true|.bl _,.bl _=>true|.str _,.str _=>true|.byt _,.byt _=>true
 |.int _,.str _=>true|.str _,.int _=>true|.bl _,.str _=>true|.str _,.bl _=>true
 |_,_=>false
%drEq:R2:=λx y H Q=>tF x y=true∧^N(decide (x=y))H
%drNe:R2:=λx y H Q=>tF x y=true∧^N(!decide (x=y))H
%tdJ{i j:Int}:decide (V.int i=V.int j)=(i==j):=by
 i6;i
%tkE{i j:Bool}:decide (V.bl i=V.bl j)=(i==j):=by
 i6;i
%tdI{i j:Str}:decide (V.str i=V.str j)=(i==j):=by
 i6;i
%tdM{i j:Array UInt8}:decide (V.byt i=V.byt j)=(i.toList==j.toList):=by
 i6;c i;c j;i
section
variable{X:Cx}{a b c:Expr}{ta tb tc:TE}{pos:Pos}
%tCe{pins:%G}{σ:St}{H:Hp}{s:Shared}{Q:VK}{k k':Bool}(I:%f)(q:^Nk H)(e:k=k'):EP X pins σ Q (.bool k') s:=by
 p;e⟨.bl k,H,I,rfl,q⟩
%tCY:%3eX .Eq rEq:=by
 M;o⟨hs,q⟩:=h
 cases x with
 |non=>
  m
  cases y with
  |non=>c ry;e PySem.EqNone.eq_none_none (%0gI q)
  |bl j=>c ry;e PySem.EqNone.eq_none_bool (%0gI q)
  |int j=>o⟨t',rfl⟩:=ry;e PySem.EqNone.eq_none_int (%0gI q)
  |str j=>o⟨t',rfl⟩:=ry;e PySem.EqNone.eq_none_str (%0gI q)
  |_=>e %5P
 |bl i=>
  m
  cases y with
  |non=>c ry;e PySem.EqNone.eq_bool_none (%0gI q)
  |bl j=>c ry;e eq_bool (Ce I q kE)
  |str j=>o⟨t',rfl⟩:=ry;e PySem.EqMixed.eq_bool_str (%0gI q)
  |_=>e %5P
 |int i=>
  x
  cases y with
  |non=>c ry;e PySem.EqNone.eq_int_none (%0gI q)
  |int j=>o⟨t',rfl⟩:=ry;e eq_int (Ce I q dJ)
  |str j=>o⟨t',rfl⟩:=ry;e PySem.EqMixed.eq_int_str (%0gI q)
  |_=>e %5P
 |str i=>
  x
  cases y with
  |non=>c ry;e PySem.EqNone.eq_str_none (%0gI q)
  |bl j=>c ry;e PySem.EqMixed.eq_str_bool (%0gI q)
  |int j=>o⟨t',rfl⟩:=ry;e PySem.EqMixed.eq_str_int (%0gI q)
  |str j=>o⟨t',rfl⟩:=ry;e eq_str (Ce I q dI)
  |_=>e %5P
 |byt i=>
  x
  cases y with
  |byt j=>o⟨t',rfl⟩:=ry;e PySem.W.eq_bytes (Ce I q dM)
  |_=>e %5P
 |_=>c y<;>e %5P
%tpB:%3eX .NotEq rNe:=by
 M;o⟨hs,q⟩:=h
 cases x with
 |non=>
  m
  cases y with
  |non=>c ry;e PySem.EqNone.ne_none_none (%0gI q)
  |bl j=>c ry;e PySem.EqNone.ne_none_bool (%0gI q)
  |int j=>o⟨t',rfl⟩:=ry;e PySem.EqNone.ne_none_int (%0gI q)
  |str j=>o⟨t',rfl⟩:=ry;e PySem.EqNone.ne_none_str (%0gI q)
  |_=>e %5P
 |bl i=>
  m
  cases y with
  |non=>c ry;e PySem.EqNone.ne_bool_none (%0gI q)
  |bl j=>c ry;e ne_bool (Ce I q (congrArg not kE))
  |str j=>o⟨t',rfl⟩:=ry;e PySem.EqMixed.ne_bool_str (%0gI q)
  |_=>e %5P
 |int i=>
  x
  cases y with
  |non=>c ry;e PySem.EqNone.ne_int_none (%0gI q)
  |int j=>o⟨t',rfl⟩:=ry;e ne_int (Ce I q (congrArg not dJ))
  |str j=>o⟨t',rfl⟩:=ry;e PySem.EqMixed.ne_int_str (%0gI q)
  |_=>e %5P
 |str i=>
  x
  cases y with
  |non=>c ry;e PySem.EqNone.ne_str_none (%0gI q)
  |bl j=>c ry;e PySem.EqMixed.ne_str_bool (%0gI q)
  |int j=>o⟨t',rfl⟩:=ry;e PySem.EqMixed.ne_str_int (%0gI q)
  |str j=>o⟨t',rfl⟩:=ry;e ne_str (Ce I q (congrArg not dI))
  |_=>e %5P
 |byt i=>
  x
  cases y with
  |byt j=>o⟨t',rfl⟩:=ry;e PySem.W.ne_bytes (Ce I q (congrArg not dM))
  |_=>e %5P
 |_=>c y<;>e %5P
%tWV:%3eX .Lt(rI0 λi j=>%4w):=nk λ_ _ _ _ _ _ _ q=>lt_int q
%tpC:%3eX .LtE(rI0 λi j=>.bl (decide (i≤j))):=nk λ_ _ _ _ _ _ _ q=>le_int q
%tKd:%3eX .Gt(rI0 λi j=>^S):=nk λ_ _ _ _ _ _ _ q=>gt_int q
%tub:%3eX .GtE(rI0 λi j=>.bl (decide (j≤i))):=nk λ_ _ _ _ _ _ _ q=>ge_int q
%tSM:%3eX .Is(λx y H Q=>y=.non∧^N(decide (x=.non))H):=by
 M;o⟨rfl,q⟩:=h;c ry;r is_none_gen (Ce I q ?_)
 c x<;>first
  |(c rx;rfl)
  |(o⟨t,rfl⟩:=rx;rfl)
%tnj:%3eX .IsNot(λx y H Q=>y=.non∧^N(!decide (x=.non))H):=by
 M;o⟨rfl,q⟩:=h;c ry;r isnot_none_gen (Ce I q ?_)
 c x<;>first
  |(c rx;rfl)
  |(o⟨t,rfl⟩:=rx;rfl)
%tOpR.or{f:Value→Value→%6e}{r r':R2}(h:OpR X f r)(h':OpR X f r'):OpR X f (λx y H Q=>r x y H Q∨r' x y H Q):=by
 intro pins s σ H x y v u Q I rx ry q;f2
 ·e h pins s σ H x y v u Q I rx ry q
 ·e h' pins s σ H x y v u Q I rx ry q
%tAW(b:Expr){op:CmpOp}(h:op≠.In:=by decide)(h2:op≠.NotIn:=by decide):&1b=false:=by
 q0;c b<;>simp[behindInMarks,e1,e2]
%tm6{op:CmpOp}{r:R2}(ho:%3eX op r)(ha:%6G)(hb:%kb tb)(hm:&1b=false):%k(%7ta [op] [b])(tOp r ta tb):=by
 j;e wpAny_Compare1 (si ha hb I h λv u s2 x y H2 I2 rx ry q=>ho pins s2 σ H2 x y v u Q I2 rx ry q) hm
%dsU(t:TE):TT:=λσ H Q=>t σ H λx H'=>∃k,x=.bl k∧Q k H'
%tmE{op:CmpOp}{r:R2}(ho:%3eX op r)(ha:%6G)(hb:%kb tb)(hm:&1b=false):PT X (%7ta [op] [b]) (sU (tOp r ta tb)):=by
 j
 r wpAny_isTrue_Compare1 (thn (ha pins s σ H _ I h) λv s1 ⟨x,H1,I1,r1,q1⟩=>thn (hb pins s1 σ H1 _ I1 q1) λu s2 ⟨y,H2,I2,r2,q2⟩=>
  thn (ho pins s2 σ H2 x y v u _ I2 r1 r2 q2) λc s3 ⟨z,H3,I3,r3,k,e,q3⟩=>?_) hm
 p;c r3;e wpAny_truthy_bool ⟨H3,I3,q3⟩
%duP(K:PySem.W.Frag)(x:V)(H:Hp)(k:Bool):Prop:=
 match x with
 |.non=>k=false
 |.bl b=>k=b
 |.int i=>k=(i != 0)
 |.str y=>y.length≤sizeLine∧k=((y.length:Int) != 0)
 |.byt y=>y.size≤sizeLine∧k=((y.size:Int) != 0)
 |.ref p=>(∃xs,SqL K H p xs∧k=!xs.isEmpty)∨(∃xs,SqT K H p xs∧k=!xs.isEmpty)∨∃kvs,%0q=%5p∧k=!kvs.isEmpty
 |_=>False
%tbU{κ:Type}{kvs:#P}{vs:%7V}(r:%3B):(!vs.isEmpty)=!kvs.isEmpty:=by
 c r<;>rfl
%tVy{xs:%c}{its:%o}(r:%9W):(!its.toArray.isEmpty)=!xs.isEmpty:=by
 c r<;>simp
%tSY:(sizeLine:Nat)<2^63:=by rw[sizeLine_eq];decide
%tpW:vL X (λx H Q=>∃k,uP X.K x H k∧Q k H):=by
 intro pins s σ H x v Q I rx h;o⟨k,e,q⟩:=h;h hl:=SY;h hs:sizeLine=16777216:=sizeLine_eq
 cases x with
 |non=>
  m;h e':k=false:=e;subst e'
  e truthy_none ⟨H,I,q⟩
 |bl b=>
  m;h e':k=b:=e;subst e'
  e wpAny_truthy_bool ⟨H,I,q⟩
 |int i=>
  x;h e':k=(i != 0):=e;subst e'
  e PySem.P.truthy_int ⟨H,I,q⟩
 |str y=>
  x;obtain⟨hy,e'⟩:y.length≤sizeLine∧k=((y.length:Int) != 0):=e;subst e'
  e PySem.P.truthy_str %w ⟨H,%1B,q⟩
 |byt y=>
  x;obtain⟨hy,e'⟩:y.size≤sizeLine∧k=((y.size:Int) != 0):=e;subst e'
  e PySem.W.truthy_bytes %w ⟨H,%1B,q⟩
 |ref p=>
  m;h e':(∃xs,SqL X.K H p xs∧k=!xs.isEmpty)∨(∃xs,SqT X.K H p xs∧k=!xs.isEmpty)∨∃kvs,%0q=%5p∧k=!kvs.isEmpty:=e;rcases e' with⟨xs,hx,e'⟩|⟨xs,hx,e'⟩|⟨kvs,hx,e'⟩
  ·subst e';o⟨its,r,pl,hz⟩:=I.list hx;h hlen:=r.length;e wpAny_truthy_list pl.isList (by s[List.size_toArray];omega) ⟨H,%1B,by rw[Vy r];e q⟩
  ·subst e';o⟨its,r,pl,hz⟩:=I.tuple hx;h hlen:=r.length;e truthy_tuple pl (by s[List.size_toArray];omega) ⟨H,%1B,by rw[Vy r];e q⟩
  ·subst e';obtain⟨hz,hS,vs,r,m⟩:kvs.length≤sizeLine∧(p==sysModules)=false∧∃vs,%3B∧s.heap.DictOf (Ci X.prog X.w) p vs:=I.hok p _ hx;h hlen:kvs.length=vs.length:=Paired.length r
   e wpAny_truthy_dict hS m %w ⟨H,%1B,by rw[bU r];e q⟩
 |_=>e(show False from e).elim
%tjc(ha:%6G)(he:∀whole,isTrue a X.env whole=(do let v←whole;standAt a.pos;%9Pv(truthy v))):
 PT X a (λσ H Q=>ta σ H λx H'=>∃k,uP X.K x H' k∧Q k H'):=by
 j;e isTrue_plain (thn (ha pins s σ H _ I h) λv s1 ⟨x,H1,I1,r1,q1⟩=>pW pins s1 σ H1 x v Q I1 r1 q1) (he _)
%tvals1{x:V}{us:%o}(r:%4I[x]):∃u,us=[u]∧%4Gx:=by
 cases r with
 |cons r1 r2=>c r2;e⟨_,rfl,r1⟩
%tvals2{x y:V}{us:%o}(r:%4I[x,y]):∃u w',us=[u,w']∧%4Gx∧RelV y w':=by
 cases r with
 |cons r1 r2=>
  cases r2 with
  |cons r3 r4=>c r4;e⟨_,_,rfl,r1,r3⟩
%tgH(hc:X.calm=true):Hq X (.builtin "max") (λxs H Q=>∃i j,xs=[.int i,%4f]∧%4o(if j>i then j else i)H):=by
 b7;o⟨i,j,rfl,q⟩:=h;o⟨u,w',rfl,⟨t,rfl⟩,⟨t',rfl⟩⟩:=vals2 r;r max_two_ints %3f λh' tk k=>⟨_,H,I.kept k,?_,q⟩;by_cases hj:j>i
 ·rw[if_pos hj,if_pos hj];e⟨_,rfl⟩
 ·rw[if_neg hj,if_neg hj];e⟨_,rfl⟩
%tkS:Hq X (.builtin "ord") (λxs H Q=>∃x,xs=[.str x]∧x.length=1∧%4o(x.cps.getD 0 0:Nat)H):=by
 b7;o⟨x,rfl,hz,q⟩:=h;o⟨u,rfl,t,rfl⟩:=vals1 r;e ord_of_one hz (%6C(.int _)H%6x q)
end
end L2
namespace L2
open PySem PySem.Spec PyProof.Rows
structure cD(h:Heap)(x dx C:Addr)(mA:Str→&f):Prop where
 obj:h.get? x=some (PySem.W.instObj C dx)
 ns:h.Ns1 dx mA
 ne:dx≠x
%tfW{h:Heap}{dx:Addr}{mA:Str→&f}(n:h.Ns1 dx mA):∃od,h.get? dx=&0Y∧∀name,PySem.W.lookIn name od=some &2q:=by
 o⟨o,es,ep,ho,hd,hk,_,hm⟩:=n;r⟨o,ho,λname=>?_⟩;h e:=hm name;u nsFind findBy at e;rw[←Array.find?_toList] at e;u PySem.W.lookIn;rw[hd];a8;B
 ·rename_i y q;O;e congrArg some e
 ·T;O
  h a:es.toList.any (·.refKey)=false:=by
   rw[List.any_eq_false];intro y hy;o⟨z,t,hkey⟩:=hk y (Array.mem_toList_iff.mp hy);simp[DictEntry.refKey,hkey]
  h a':¬es.toList.any (·.refKey)=true:=by rw[a];e Bool.false_ne_true
  rw[if_neg a'];e congrArg some e
%tcD.look{h:Heap}{x dx C:Addr}{mA:Str→&f}(I:cD h x dx C mA):∃od,PySem.W.InstAt h x (PySem.W.instObj C dx) C &0Y∧∀name,PySem.W.lookIn name od=some &2q:=
 let⟨od,ho,hl⟩:=fW I.ns
 ⟨od,⟨I.obj,rfl,rfl,ho⟩,hl⟩
section
variable{prog:Program}{w:World}{A:Around}{E:Value→Shared→Prop}{s:Shared}{K:PySem.W.Frag}{x dx C f:Addr}{mA:Str→Option Value}{name:Str}{v:Value}
%tget_map{expr:Bool}{Q:Value→Shared→Prop}(X:&0y)(I:cD s.heap x dx C mA)(hg:PySem.W.plainGet K C name=true)(hh:PySem.W.hasDictIn K C=true)
 (ha:%9bK name=%8e) (hv:&2q=%W) (hv':PySem.W.handedIn v=true) (h:&4tv):
 #mw A(getAttr %3s name expr)Q E s:=by
 o⟨od,J,hl⟩:=I.look;e PySem.W.get_value X J (PySem.W.plainGet_of hg).1 (PySem.W.findObj_own hh ha rfl (by rw[hl,hv])) hv' h
%tj4{pl:&2f}{Q:Value×%o→Shared→Prop}(X:&0y)(I:cD s.heap x dx C mA)(hg:PySem.W.plainGet K C name=true)
 (hf:%9bK name=some (%ef)) (ht:%5kK f=true) (hv:&2q=none) (h:Q (.ref f,[.ref x]) s):
 #mw A(getMethod %3s name pl)Q E s:=by
 o⟨od,J,hl⟩:=I.look;e PySem.W.method_fn X J (PySem.W.plainGet_of hg).1 (PySem.W.plainGet_of hg).2 hf (beq_iff_eq.mp ht) (by show(PySem.W.lookIn name od).map (·.isSome)=%5r;rw[hl,hv];rfl) h
%tl6{ns:%u}{Q:Unit→Shared→Prop}(X:&0y)(I:cD s.heap x dx C mA)
 (hs:%9bK"__setattr__"=some (some (.builtin "object.__setattr__"))) (hp:PySem.W.plainOver K C=true) (ht:PySem.W.takerIn K C name=%8e) (hh:PySem.W.hasDictIn K C=true)
 (hw:PySem.Within mA ns) (hsz:ns.length≤sizeLine)
 (h:∀h',cD h' x dx C (λy=>if y=name then %W else mA y)→&3ldx h'→Q () {s with heap:=h',toks:=s.toks+2}):
 #mw A(setAttr %3s name v)Q E s:=by
 o⟨od,J,hl⟩:=I.look;r PySem.W.set_plain X J hs (PySem.W.osa_open (s:={s with toks:=s.toks+1}) (r:=none) X J hp ht λb=>?_);o⟨cd,hc,hd'⟩:=PySem.W.any_some hh;h hx:s.heap.get? x=some ⟨^d,some dx,.plain,#[]⟩:=I.obj;r %8X(&1t(wpAny_loadPart hx (wpAny_bind (PySem.W.Looks.here (s:={s with toks:=s.toks+1}) (PySem.W.looks_clsIn X hc) ?_))));rw[hd'];r wpAny_pure (a:=some dx) (%8X%0F);r wpAny_nsSet1 (s:={s with toks:=s.toks+1}) I.ns λh' hn2 hs2=>?_;o⟨oD,esD,epD,hoD,hdD,hcD⟩:=hn2.count (PySem.Within.cons name v hw);r wpAny_bind (wpAny_lookBehind hoD (by rw[hdD];e pastItsLine_dict (Nat.le_trans hcD (by rw[List.length_cons];omega))) ?_);e wpAny_pure (h _ ⟨(hs2.2 _ (Ne.symm I.ne)).trans I.obj,hn2,I.ne⟩ hs2)
%tjM{R:Result→Shared→Prop}{vs:%o}{kw:&0p}(X:&0y)(hm:PySem.W.makesIn K C=true)
 (hi:%9bK"__init__"=some (%ef)) (hf:PySem.W.typeIn K %9T=some (.type "function"))
 (h:codeAny %3v (A.under (.builtin "type.__call__" ⟨.ref C::vs,kw⟩)) (.call %9T ⟨.ref (s.heap.objs.size+1)::vs,kw⟩) (PySem.W.InitBack (s.heap.objs.size+1) R)
   {s with heap:=&1l.push (&4qC)}):
 codeAny %3v A (.call ^d ⟨vs,kw⟩) R s:=by
 o⟨hh,g,d,t,os⟩:=s;e PySem.W.make_core (PySem.W.makes_of X hm) (PySem.W.looks_findIn X hi) (λself=>PySem.W.bind_fn X self hf) %U h
end
%dJp(f:Str)(v:V):%1C→List (Str×V)
 |[]=>[(f,v)]
 |(g,x)::r=>if g=f then(g,v)::r else(g,x)::Jp f v r
%tNM(f g:Str)(v:V):∀fs:%1C,(Jp f v fs).lookup g=if g=f then %W else fs.lookup g
 |[]=>by
  show List.lookup g [(f,v)]=_;by_cases h:g=f
  ·h hb:(g==f)=true:=beq_iff_eq.mpr h;s[List.lookup,hb,if_pos h]
  ·h hb:(g==f)=false:=beq_eq_false_iff_ne.mpr h
   s[List.lookup,hb,if_neg h]
 |(k,x)::r=>by
  h ih:=NM f g v r;j4
  ·rw[if_pos hk];by_cases h:g=k
   ·h hb:(g==k)=true:=beq_iff_eq.mpr h;s[List.lookup,hb,if_pos (h.trans hk)]
   ·h hb:(g==k)=false:=beq_eq_false_iff_ne.mpr h;s[List.lookup,hb,if_neg (λe:g=f=>h (e.trans hk.symm))]
  ·rw[if_neg hk];by_cases h:g=k
   ·h hb:(g==k)=true:=beq_iff_eq.mpr h;s[List.lookup,hb,if_neg (λe:g=f=>hk (h.symm.trans e))]
   ·h hb:(g==k)=false:=beq_eq_false_iff_ne.mpr h;s[List.lookup,hb];e ih
%tLq(f:Str)(v:V):∀fs:%1C,f∈(Jp f v fs).map (·.1)∧∀g,g∈fs.map (·.1)→g∈(Jp f v fs).map (·.1)
 |[]=>⟨by simp[Jp],λg h=>by simp at h⟩
 |(k,x)::r=>by
  o⟨i1,i2⟩:=Lq f v r;j4
  ·rw[if_pos hk];subst hk;e⟨by simp,λg h=>by simpa using h⟩
  ·rw[if_neg hk];r⟨?_,λg h=>?_⟩
   ·rw[List.map_cons];e #ai1
   ·rw[List.map_cons] at h ⊢;rcases List.mem_cons.mp h with e|e
    ·e List.mem_cons.mpr (.inl e)
    ·e #a(i2 g e)
%tTQ(f:Str)(v:V):∀fs:%1C,(Jp f v fs).length≤fs.length+1
 |[]=>by simp[Jp]
 |(k,x)::r=>by
  h ih:=TQ f v r;j4
  ·rw[if_pos hk,List.length_cons,List.length_cons];b
  ·rw[if_neg hk,List.length_cons,List.length_cons];b
%tJL.some_of{v:V}{o:&f}(r:JL %W o):∃u,o=%x∧%1p:=by
 cases o with
 |none=>e(show False from r).elim
 |some u=>e⟨u,rfl,r⟩
%tJL.none_of{o:&f}(r:JL none o):o=none:=by
 cases o with
 |none=>rfl
 |some u=>e(show False from r).elim
%tXc{v:V}{u:Value}(r:%1p):PySem.W.handedIn u=true:=by
 cases v with
 |non=>c(show u=Value.none from r);rfl
 |bl b=>c(show u=Value.bool b from r);rfl
 |int i=>o⟨t,e⟩:=(show∃t,u=Value.int i t from r);c e;rfl
 |str x=>o⟨t,e⟩:=(show∃t,u=Value.str x t from r);c e;rfl
 |byt b=>o⟨t,e⟩:=(show∃t,u=Value.bytes b t from r);c e;rfl
 |flt b=>o⟨t,e⟩:=(show∃t,u=Value.float b t from r);c e;rfl
 |ref a=>c(show u=Value.ref a from r);rfl
 |ty n=>c(show u=Value.type n from r);rfl
section
variable{P:Program}{w:World}{H H':Hp}{h h':Heap}{a C dx:Addr}{fs fs':List (Str×V)}
%tYC(hok:HOk P w H h)(e:&Q=%3mC dx fs):∃mA,cD h a dx C mA∧(∀f,JL %3N (mA f))∧PySem.Within mA (fs.map (·.1))∧fs.length≤1000∧H dx=%8ka:=by
 o⟨d,z,ne,ob,mA,n,r,q⟩:=(show C2 P w H h a (.ins C dx fs) from hok a _ e);e⟨mA,⟨ob,n,ne⟩,r,q,z,d⟩
end
structure Cls(K:PySem.W.Frag)(C:Addr):Prop where
 pg:PySem.W.plainGet K C Str.empty=true
 hd:PySem.W.hasDictIn K C=true
 po:PySem.W.plainOver K C=true
 sa:%9bK"__setattr__"=some (some (.builtin "object.__setattr__"))
%tCls.get{K:PySem.W.Frag}{C:Addr}(c:Cls K C)(f:Str):PySem.W.plainGet K C f=true:=c.pg
%dJH(K:PySem.W.Frag)(C:Addr)(f:Str):Prop:=%9bK f=%8e
%tJH.sR{K:PySem.W.Frag}{C:Addr}{f:Str}(n:JH K C f):PySem.W.takerIn K C f=%8e:=by
 u PySem.W.takerIn;rw[show %9bK f=some none from n];a
structure Meth(K:PySem.W.Frag)(C:Addr)(m:Str)(f:Addr):Prop where
 at_:%9bK m=some (%ef)
 fn:%5kK f=true
 kp:%1iK f=true
section
variable{X:Cx}{pins:List (Addr×Obj)}{σ:St}{H:Hp}{s:Shared}{a C dx:Addr}{fs:List (Str×V)}{f:Str}{v:V}{A:Around}{E:Value→Shared→Prop}
%tVD{b:Bool}{Q:Value→Shared→Prop}(I:%f)(e:&Q=%3mC dx fs)(c:Cls X.K C)(n:JH X.K C f)(l:%3N=%W)
 (h:∀u s',%3cs'→%1p→Q u s'):%3bA(getAttr %N f b)Q E s:=by
 o⟨mA,O,r,_,_,_⟩:=YC I.hok e;o⟨u,hu,ru⟩:=JL.some_of (v:=v) (o:=mA f) (by rw[←l];e r f);e get_map I.kIn O (c.get f) c.hd n hu (Xc ru) (h u _ %1B ru)
%tQe{m:Str}{g:Addr}{pl:&2f}{Q:Value×%o→Shared→Prop}(I:%f)(e:&Q=%3mC dx fs)(c:Cls X.K C)(k:Meth X.K C m g)(l:&3p=none)
 (h:Q (.ref g,[.ref a]) s):%3bA(getMethod %N m pl)Q E s:=by
 o⟨mA,O,r,_,_,_⟩:=YC I.hok e;h hn:mA m=none:=JL.none_of (by rw[←l];e r m);e j4 I.kIn O (c.get m) k.at_ k.fn hn h
%tUU{y:V}{u:Value}{Q:Unit→Shared→Prop}(I:%f)(e:&Q=%3mC dx fs)(c:Cls X.K C)(n:JH X.K C f)(hl:fs.length<1000)(ry:%0L)
 (h:∀s',&O(%Ya(.ins C dx (Jp f y fs)))s'→Q () s'):%3bA(setAttr %N f u)Q E s:=by
 o⟨mA,O,r,wi,_,ho⟩:=YC I.hok e;s7;r l6 I.kIn O c.sa c.po n.sR c.hd wi hz λh' O' sb=>h _ ?_
 h hd:∃o,h'.get? dx=%b:=let⟨o,_,_,e',_⟩:=O'.ns;⟨o,e'⟩
 r I.write (x:=a) (e:=dx) (by rw[e];e True.intro) (.inr ho) (λb q hb z=>(sb.2 b hb).trans z) hd ?_;r⟨by rw[Ay O.ne];e ho,?_,O.ne,O'.obj,_,O'.ns,λg=>?_,λg hg=>?_⟩
 ·h:=TQ f y fs;b
 ·show JL ((Jp f y fs).lookup g) (if g=f then %x else mA g);rw[NM];by_cases q:g=f
  ·rw[if_pos q,%7i];e ry
  ·rw[if_neg q,%3V];e r g
 ·by_cases q:g=f
  ·rw[q];e(Lq f y fs).1
  ·r(Lq f y fs).2 g (wi g λz=>hg ?_);show(if g=f then %x else mA g)=none;R;e z
%tInv.made(I:%f):Inv X pins σ (upd (&2Y(.own (s.heap.objs.size+1))) (s.heap.objs.size+1) (.ins C s.heap.objs.size []))
 {s with heap:=&1l.push (&4qC)}:=by
 h e1:&1l.get? s.heap.objs.size=some PySem.W.emptyDict:=&5Es.heap
 h e2:(&1l.push (&4qC)).get? (s.heap.objs.size+1)=some (&4qC):=by
  h:=Heap.get?_push_size &1l (o:=&4qC) rfl
  rwa[Heap.size_push] at this
 h e3:&1l.Ns s.heap.objs.size (λ_=>none):=⟨PySem.W.emptyDict,#[],_,e1,rfl,(λe he=>%0bhe),λ_=>rfl⟩;h I1:=I.laid (a:=s.heap.objs.size) (o:=.own (s.heap.objs.size+1)) (h':=&1l) (t':=s.toks) (λb u q=>%6y) %L ⟨_,e1⟩;r I1.laid (a:=s.heap.objs.size+1) (o:=.ins C s.heap.objs.size []) (t':=s.toks) (λb u q=>%6y) (Nat.le_of_eq (Heap.size_push _ _)) ?_;h ne:s.heap.objs.size≠s.heap.objs.size+1:=Nat.ne_of_lt %0s;r⟨by rw[Ay ne,Bi],#q,ne,e2,λ_=>none,(Heap.Ns1.of_empty e3).at λo q=>%6y,λ_=>True.intro,λy hy=>^Uhy⟩
%tdU{prog:Program}{w:World}{env:Env}{e:Expr}{f:Str}{pos:Pos}{s:Shared}{Q:Value→Shared→Prop}(hb:attributeBase e f env (eval e env)=eval e env)
 (h:#mw A(eval e env)(λo s₁=>#mw A(getAttr o f true)Q E s₁)E s):#mw A(eval (%3Te pos) env)Q E s:=
 Attribute_any_ h (by rw[arm_eval_Attribute,hb])
end
%dva(K:PySem.W.Frag)(ta:TE)(f:Str):TE:=λσ H Q=>ta σ H λx H1=>∃a C dx fs v,x=%N∧H1 a=%3mC dx fs∧Cls K C∧JH K C f∧%3N=%W∧Q v H1
%dvk(K:PySem.W.Frag)(ta tv:TE)(f:Str):TS:=λD σ H=>tv σ H λy H1=>ta σ H1 λx H2=>∃a C dx fs,x=%N∧H2 a=%3mC dx fs∧Cls K C∧JH K C f∧fs.length<1000∧
 %5J(upd H2 a (.ins C dx (Jp f y fs)))
%dlC(X:Cx)(op:Operator)(rd:V→V→Hp→VK→Prop):Prop:=
 ∀(pins:%G) (s:Shared) (σ:St) (H:Hp) (x y:V) (u v:Value) (Q:VK),%f→%4Gx→RelV y v→rd x y H Q→#i(inplaceOp op u v)(EP X pins σ Q)
%dmd(K:PySem.W.Frag)(ta tv:TE)(rd:V→V→Hp→VK→Prop)(f:Str):TS:=λD σ H=>ta σ H λx H1=>∃a C dx fs v,x=%N∧H1 a=%3mC dx fs∧Cls K C∧JH K C f∧%3N=%W∧
 tv σ H1 λy H2=>rd v y H2 λz H3=>∃dx' fs',H3 a=%3mC dx' fs'∧fs'.length<1000∧%5J(upd H3 a (.ins C dx' (Jp f z fs')))
section
variable{X:Cx}{o e value:Expr}{f:Str}{pos pos' tpos:Pos}{ta tv:TE}
%tqS(he:&0Xe)(hb:%4Ce f#u=#u):%k(%3Te pos)(va X.K ta f):=by
 j;r dU hb (thn (he pins s σ H _ I h) λu s1 ⟨x,H1,I1,rx,a,C,dx,fs,v,ex,ea,c,n,l,q⟩=>?_);W;e VD I1 ea c n l λu' s2 I2 ru=>⟨v,H1,I2,ru,q⟩
%tqI(ha:&0Xo)(hv:%kvalue tv)(hs:%7Uvalue(some (%3To pos'))X.env=%7c):PS X (&1g[%3To pos']value) (vk X.K ta tv f):=by
 D;r plainObj_wpAny_Assign_Attribute (thn (hv pins s σ H _ I h) λu s1 ⟨y,H1,I1,ry,q⟩=>thn (ha pins s1 σ H1 _ I1 q) λov s2 ⟨x,H2,I2,rx,a,C,dx,fs,ex,ea,c,n,l,q2⟩=>?_) hs;P;obtain rfl:ov=%3M:=rx;e UU I2 ea c n l ry λs3 I3=>⟨σ,_,I3,q2⟩
%tfw{op:Operator}{rd:V→V→Hp→VK→Prop}(ha:&0Xo)(hv:%kvalue tv)(hop:lC X op rd):PS X (.AugAssign (%3To tpos) op value pos) (md X.K ta tv rd f):=by
 D;r wpAny_AugAssign_AttributeAny (thn (ha pins s σ H _ I h) λov s1 ⟨x,H1,I1,rx,a,C,dx,fs,v,ex,ea,c,n,l,q⟩=>?_);P;obtain rfl:ov=%3M:=rx;r VD I1 ea c n l λu s2 I2 ru=>thn (hv pins s2 σ H1 _ I2 q) λw3 s3 ⟨y,H2,I3,ry,q3⟩=>thn (hop pins s3 σ H2 v y u w3 _ I3 ru ry q3) λw4 s4 ⟨z,H3,I4,rz,dx',fs',ea',l',q4⟩=>?_;e UU I4 ea' c n l' rz λs5 I5=>⟨σ,_,I5,q4⟩
%dvq:V→V→Hp→VK→Prop:=λx y H Q=>∃i j,x=^x∧y=%4f∧Q #c H
%tYD:lC X .Add vq:=by
 rintro pins s σ H x y u v Q I rx ry ⟨i,j,rfl,rfl,q⟩;o⟨t,rfl⟩:=(show∃t,u=Value.int i t from rx);o⟨t',rfl⟩:=(show∃t',v=Value.int j t' from ry);e PyProof.Rows.iadd_int (%6C#c H%6x q)
%tpH{pl:&2f}{m:Str}{apos:Pos}{args:%0i}{pins:%G}{s:Shared}{σ:St}{H:Hp}{Q:Value→Shared→Prop}{te:TE}(he:%ke te)(I:%f)
 (h:te σ H λx H1=>∃a C dx fs g,x=%N∧H1 a=%3mC dx fs∧Cls X.K C∧Meth X.K C m g∧&3p=none∧
   ∀s1,&OH1 s1→%1y(callWith pos (.ref g) [%N] (%9oargs) (%7Hpos []))Q s1)
 (ht:#B(^Ye m args pos)=(do
   let ov←#u
   standAt apos.atName
   let(f,first)←%9Pov(getMethod ov m pl)
   callWith pos f first (%9oargs) (%7Hpos []))):
 #i(#B(^Ye m args pos))Q:=by
 r PySem.W.methodCall_KW (pl:=pl) (thn (he pins s σ H _ I h) λu s1 ⟨x,H1,I1,rx,a,C,dx,fs,g,ex,ea,c,k,l,q⟩=>?_) ht;W;e Qe I1 ea c k l (q s1 I1)
end
section
variable{X:Cx}{pins:List (Addr×Obj)}{σ:St}{H:Hp}{s:Shared}{A:Around}{E:Value→Shared→Prop}{Q:Value→Shared→Prop}{c:Value}{b:Bool}
end
end L2
namespace L2
open PySem PySem.Spec PyProof.Rows
structure D3(k:Nat)(A:Around):Prop where
 hd:A.handled=none
 dp:A.depth+3*k+5<recursionLimit
 un:A.units+16*k+200<cLine
%tD3.mono{j k:Nat}{A:Around}(r:D3 k A)(h:j≤k):D3 j A:=⟨r.hd,by h:=r.dp;omega,by h:=r.un;omega⟩
%tD3.deeper{k:Nat}{A:Around}(r:D3 (k+1) A)(env:Env):D3 k (A.deeper env):=
 ⟨r.hd,by h:=r.dp;show A.depth+1+3*k+5<_;omega,by h:=r.un;show A.units+3+16*k+200<_;omega⟩
%tD3.in1{k:Nat}{A:Around}(r:D3 (k+1) A):D3 k A.in1:=
 ⟨r.hd,by h:=r.dp;show A.depth+3*k+5<_;omega,by h:=r.un;show A.units+1+16*k+200<_;omega⟩
%tVq{A:Around}{C:Addr}{us:%o}{kw:&0p}:&4G.depth=A.depth+1:=by
 first|rfl|simp[Around.under,Code.weight,Code.isCreation,Code.isGuard,Code.isCaller,Code.frames,Code.isFrame,guardIds]
%tVp{A:Around}{C:Addr}{us:%o}{kw:&0p}:&4G.units=A.units+1:=by
 first|rfl|simp[Around.under,Code.cUnits,Code.frames,Code.isFrame]
%tD3.make{k:Nat}{A:Around}(r:D3 (k+1) A)(C:Addr)(us:%o)(kw:&0p):D3 k &4G:=
 ⟨r.hd,by h:=r.dp;rw[Vq];omega,by h:=r.un;rw[Vp];omega⟩
%tD3.depth{k:Nat}{A:Around}(r:D3 k A):A.depth<recursionLimit:=by h:=r.dp;omega
%tD3.units{k:Nat}{A:Around}(r:D3 k A):A.units+64<cLine:=by h:=r.un;omega
%dlT:TA:=λ_ H Q=>Q [] H
%dtu(ta:TE)(tr:TA):TA:=λσ H Q=>ta σ H λx H1=>tr σ H1 λxs H2=>Q (x::xs) H2
section
variable{X:Cx}{e:Expr}{es:List Expr}{te:TE}{t:TA}{pos:Pos}
%tqW:PA X [] lT:=λ_ _ _ _ H Q I h=>Calls.spliced_nil ⟨[],H,I,.nil,h⟩
%tm9(ha:%ke te)(hr:PA X es t)(hs:%3d=(false,#u)::%1m:=by rfl):PA X (e::es) (tu te t):=by
 intro pos pins s σ H Q I h;rw[hs];show #A_ _(spliced ((false,#u)::%5x))_ _;r Calls.spliced_cons (thn (ha pins s σ H _ I h) λu s1 ⟨x,H1,I1,r1,q1⟩=>?_);e thn (hr pos pins s1 σ H1 _ I1 q1) λus s2 ⟨xs,H2,I2,r2,q2⟩=>⟨x::xs,H2,I2,.cons r1 r2,q2⟩
%duY(t:TA):TE:=λσ H Q=>t σ H λxs H1=>xs.length≤sizeLine∧∀p,H1 p=none→%1S(upd H1 p (.tup xs))
%du6(t:TA):TE:=λσ H Q=>t σ H λxs H1=>xs.length≤sizeLine∧∀p,H1 p=none→%1S(^VH1 p xs)
%tqO{x1}(h:PA X es t):%k(.Tuple es x1 pos)(uY t):=by
 intro pins s σ H Q I hq;r wpAny_Tuple_spliced (thn (h pos pins s σ H _ I hq) λus s1 ⟨xs,H1,I1,r,z,q⟩=>⟨by rw[←r.length];e z,?_⟩);h hf:H1 s1.heap.objs.size=none:=&4v;r⟨.ref s1.heap.objs.size,upd H1 s1.heap.objs.size (.tup xs),I1.laid (t':=s1.toks) (λb u e=>%5C) %L ?_,rfl,q _ hf⟩;e⟨z,us,r,⟨_,^l,rfl,_,rfl⟩⟩
%tjl(h:PA X es t):%k(.List es pos)(u6 t):=by
 intro pins s σ H Q I hq;r wpAny_List_spliced (thn (h pos pins s σ H _ I hq) λus s1 ⟨xs,H1,I1,r,z,q⟩=>⟨by rw[←r.length];e z,?_⟩);h hf:H1 s1.heap.objs.size=none:=&4v;r⟨.ref s1.heap.objs.size,^VH1 s1.heap.objs.size xs,I1.laid (t':=s1.toks) (λb u e=>%5C) %L ?_,rfl,q _ hf⟩;e⟨z,us,0,r,^l⟩
end
abbrev Sp:=%c→Hp→VK→XK→Prop
abbrev CXT:=^y→Hp→Shared→XK→Value→Shared→Prop
structure Tn(P:Program)(w:World)(K:PySem.W.Frag)(mg:Str→&f)(base:Heap)(A:Around)(outer:^y)(s:Shared)(H:Hp):Prop where
 frames:A.frames=some outer
 mod:Mod K mg base
 bs:∀b o,base.get? b=%b→%0t=%b∧%O=none
 bsz:base.objs.size≤s.heap.objs.size
 OV:&6wouter
 frf:∀b∈frs outer,%O=none
 hok:HOk P w H s.heap
 bare:AllBare s.gens
%dCE(outer:^y)(P:Program)(w:World)(H:Hp)(s:Shared)(Q:VK)(u:Value)(s':Shared):Prop:=
 ∃v H',s'.os=s.os∧&6p∧Un (frs outer) [] H H' s.heap s'.heap∧HOk P w H' s'.heap∧%1p∧Q v H'
%dCR(CX:CXT)(outer:^y)(P:Program)(w:World)(H:Hp)(s:Shared)(Q:VK)(E:XK)(r:Result)(s':Shared):Prop:=
 match r with
 |.ok (.ret u)=>CE outer P w H s Q u s'
 |.ok _=>False
 |.error e=>CX outer H s E e s'
structure BC(P:Program)(w:World)(K:PySem.W.Frag)(mg:Str→&f)(base:Heap)(CX:CXT)(k:Nat)(f:Addr)(fd:FuncData)(ps:%u)(sp:Sp):Prop where
 len:∀vs H Q E,sp vs H Q E→vs.length=ps.length
 run:∀(A:Around) (outer:^y) (s:Shared) (H:Hp) (args:Args) (us:%o) (vs:%c) (Q:VK) (E:XK),D3 k A→Tn P w K mg base A outer s H→BindsTo s fd args %3P→%8u→sp vs H Q E→
  codeAny (model P w) A (.call %9T args) (CR CX outer P w H s Q E) s
%tBC.mono{P:Program}{w:World}{K:PySem.W.Frag}{mg:Str→&f}{base:Heap}{CX:CXT}{j k:Nat}{f:Addr}{fd:FuncData}{ps:%u}{sp:Sp}(F:BC P w K mg base CX j f fd ps sp)(h:j≤k):
 BC P w K mg base CX k f fd ps sp:=⟨F.len,λA outer s H args us vs Q E hr=>F.run A outer s H args us vs Q E (hr.mono h)⟩
%tTn.make{P:Program}{w:World}{K:PySem.W.Frag}{mg:Str→&f}{base:Heap}{A:Around}{outer:^y}{s:Shared}{H:Hp}(e:Tn P w K mg base A outer s H)(C:Addr)(us:%o)(kw:&0p):
 Tn P w K mg base &4G outer s H:=⟨by first|e e.frames|(simpa [Around.under,Code.envs,Code.isFrame,pushEnvs] using e.frames),e.mod,e.bs,e.bsz,e.OV,e.frf,e.hok,e.bare⟩
%tTn.in1{P:Program}{w:World}{K:PySem.W.Frag}{mg:Str→&f}{base:Heap}{A:Around}{outer:^y}{s:Shared}{H:Hp}(e:Tn P w K mg base A outer s H):
 Tn P w K mg base A.in1 outer s H:=⟨e.frames,e.mod,e.bs,e.bsz,e.OV,e.frf,e.hok,e.bare⟩
section
variable{X:Cx}{pins:List (Addr×Obj)}{σ:St}{H:Hp}{s s':Shared}
%tInv.rQ(I:%f):Tn X.prog X.w X.K X.mg X.base X.A X.stack s H:=
 ⟨I.ok.frames,I.ok.mod,I.bs,&4zI.sz,I.stack,I.XX,I.hok,I.bare⟩
%tInv.after{Q:VK}{u:Value}(I:%f)(h:CE X.stack X.prog X.w H s Q u s'):EP X pins σ Q u s':=by
 o⟨v,H',os,bare,un,hok,r,q⟩:=h;o⟨hh,g,d,t,os'⟩:=s';obtain rfl:os'=s.os:=os;e⟨v,H',I.call (h':=hh) (g':=g) (d':=d) (t':=t) (ch:=[]) un hok bare (λb z=>%0bz),r,q⟩
end
%dpk(sp:Sp)(dvs:%c)(E:XK)(t:TA):TE:=λσ H Q=>t σ H λvs H1=>sp (vs++dvs) H1 Q E
%dpj(C:Addr)(m:Str)(sp:Sp)(dvs:%c)(E:XK)(ta:TE)(t:TA):TE:=λσ H Q=>ta σ H λx H1=>∃a dx fs,x=%N∧H1 a=%3mC dx fs∧&3p=none∧
 t σ H1 λvs H2=>sp (x::(vs++dvs)) H2 Q E
%diy(C:Addr)(sp:Sp)(dvs:%c)(E:XK)(t:TA):TE:=λσ H Q=>t σ H λvs H1=>∀x dx,H1 x=none→H1 dx=none→dx≠x→
 sp (.ref x::(vs++dvs)) (upd (upd H1 dx (.own x)) x (.ins C dx [])) (λv H2=>v=.non∧Q %3s H2) E
%dBinds(K:PySem.W.Frag)(fd:FuncData)(ps:%u)(ds:%o):Prop:=
 ∀(s:Shared) (us:%o),&0y→(us++ds).length=ps.length→BindsTo s fd %9R (ps.zip (us++ds))
%tBinds.all{K:PySem.W.Frag}{fd:FuncData}{ps:%u}(h:∀us:%o,us.length=ps.length→bindArgs fd %9R=pure %3P):Binds K fd ps []:=λs us _ hl=>by
 rw[List.append_nil] at hl ⊢;e .of_eq (h us hl)
%dPasses(CX:CXT)(X:Cx)(E:XK):Prop:=∀(pins:%G) (σ:St) (H:Hp) (s:Shared) (e:Value) (s':Shared),%f→CX X.stack H s E e s'→X.xe e s'
section
variable{X:Cx}{CX:CXT}{k:Nat}{f C:Addr}{fd:FuncData}{ps:List Str}{sp:Sp}{dvs:List V}{ds:List Value}{E:XK}{x m:Str}{p pos apos:Pos}{e o:Expr}{es:List Expr}{ta:TE}{t:TA}
%tYb{pins:%G}{σ:St}{H:Hp}{s:Shared}{Q:VK}{us:%o}{vs:%c}(F:BC X.prog X.w X.K X.mg X.base CX k f fd ps sp)(hr:D3 k X.A)(hb:%0Yfd ps ds)(hd:Vals dvs ds)(hx:Passes CX X E)
 (I:%f) (r:%8u) (h:sp (vs++dvs) H Q E):#i(call %9T us)(EP X pins σ Q):=by
 h r2:Vals (vs++dvs) (us++ds):=r.append hd;h hl:(us++ds).length=ps.length:=by rw[←r2.length];e F.len _ _ _ _ h
 r wpAny_call (codeAny_mono (F.run X.A X.stack s H %9R (us++ds) (vs++dvs) Q E hr I.rQ (hb s us I.kIn hl) r2 h) λr s' hq=>?_)
 cases r with
 |error e=>e hx pins σ H s e s' I hq
 |ok fl=>
  cases fl with
  |ret u=>e I.after hq
  |next=>e &1E
  |brk=>e &1E
  |cont=>e &1E
%tm7(F:BC X.prog X.w X.K X.mg X.base CX k f fd ps sp)(hr:D3 k X.A)(hg:Gl X x)(hm:%0X=%ef)(hk:%1iX.K f=true)(hb:%0Yfd ps ds)(hd:Vals dvs ds)(hx:Passes CX X E)
 (ha:PA X (e::es) t) (hdb:(x==("__debug__":Str))=false:=by decide) (he:%3d=(false,#u)::%1m:=by rfl) (hpl:%5x.any (·.1)=false:=by rfl):
 %k(&1hx p)(pk sp dvs E t):=by
 j;e0;r &6BI.ok.mod.kin hk(thn (ha pos pins s σ H _ I h) λus s1 ⟨vs,H1,I1,r,q⟩=>⟨I1.kIn,?_⟩)he hpl;e Yb F hr hb hd hx I1 r q
%tmT{pl:&2f}(he:&0Xo)(c:Cls X.K C)(hm:Meth X.K C m f)(F:BC X.prog X.w X.K X.mg X.base CX k f fd ps sp)(hr:D3 k X.A)(hb:%0Yfd ps ds)(hd:Vals dvs ds)(hx:Passes CX X E)(ha:PA X (e::es) t)
 (hst:%3d=(false,#u)::%1m:=by rfl) (hpl:%5x.any (·.1)=false:=by rfl)
 (ht:#B(^Yo m(e::es)pos)=(do
   let ov←%0M
   standAt apos.atName
   let(f,first)←%9Pov(getMethod ov m pl)
   callWith pos f first (%9o(e::es)) (%7Hpos [])):=by rfl):
 %k(^Yo m(e::es)pos)(pj C m sp dvs E ta t):=by
 p9;W;r Qe I1 ea c hm l ?_;r PySem.W.callWith_K (first:=[.ref a]) (h₀:=X.base) I.ok.mod.kin hm.kp (thn (ha pos pins s1 σ H1 _ I1 q) λus s2 ⟨vs,H2,I2,r,q2⟩=>⟨I2.kIn,?_⟩) hst hpl;e Yb (us:=%N::us) (vs:=%N::vs) F hr hb hd hx I2 (.cons rfl r) q2
%tjj{pl:&2f}(he:&0Xo)(c:Cls X.K C)(hm:Meth X.K C m f)(F:BC X.prog X.w X.K X.mg X.base CX k f fd ps sp)(hr:D3 k X.A)(hb:%0Yfd ps ds)(hd:Vals dvs ds)(hx:Passes CX X E)
 (ht:#B(^Yo m []pos)=(do
   let ov←%0M
   standAt apos.atName
   let(f,first)←%9Pov(getMethod ov m pl)
   callWith pos f first (%9o[]) (%7Hpos [])):=by rfl):
 %k(^Yo m []pos)(pj C m sp dvs E ta lT):=by
 p9;W;r Qe I1 ea c hm l ?_;e PySem.W.callWith_K0 (first:=[.ref a]) I1.kIn hm.kp (Yb (us:=[.ref a]) (vs:=[.ref a]) F hr hb hd hx I1 (%4Prfl) q)
structure Mk(K:PySem.W.Frag)(C f:Addr):Prop where
 makes:PySem.W.makesIn K C=true
 init:%9bK"__init__"=some (%ef)
 fn:%5kK f=true
 kp:%1iK C=true
%tRa{pins:%G}{σ:St}{H:Hp}{s:Shared}{Q:VK}{us:%o}{vs:%c}(M:Mk X.K C f)(F:BC X.prog X.w X.K X.mg X.base CX k f fd ps sp)(hr:%9K)(hb:%0Yfd ps ds)(hd:Vals dvs ds)
 (hx:Passes CX X E) (I:%f) (r:%8u)
 (h:∀x dx,H x=none→H dx=none→dx≠x→sp (.ref x::(vs++dvs)) (upd (%Ydx(.own x)) x (.ins C dx [])) (λv H2=>v=.non∧Q %3s H2) E):
 #i(call ^d us)(EP X pins σ Q):=by
 h hq:=h (s.heap.objs.size+1) s.heap.objs.size (I.hok.fresh (Nat.le_succ _)) %5f (Nat.ne_of_lt %0s);h I2:=Inv.made (C:=C) I;h r2:Vals (V.ref (s.heap.objs.size+1)::(vs++dvs)) (Value.ref (s.heap.objs.size+1)::(us++ds)):=.cons rfl (r.append hd)
 h hl:(Value.ref (s.heap.objs.size+1)::us++ds).length=ps.length:=by
  h e:=r2.length;rw[F.len _ _ _ _ hq] at e;e e.symm
 r wpAny_call (jM (f:=f) I.kIn M.makes M.init (beq_iff_eq.mp M.fn) (codeAny_mono (F.run _ X.stack _ _ ⟨Value.ref (s.heap.objs.size+1)::us,[]⟩ (Value.ref (s.heap.objs.size+1)::(us++ds)) _ _ E (hr.make C us [])
  (I2.rQ.make C us []) (hb _ (Value.ref (s.heap.objs.size+1)::us) I2.kIn hl) r2 hq) λr s' hq'=>?_))
 cases r with
 |error e=>e hx pins σ _ _ e s' I2 hq'
 |ok fl=>
  cases fl with
  |ret u=>
   o⟨v,H',I3,rv,ev,q3⟩:=I2.after hq';subst ev
   e⟨rv,⟨V.ref (s.heap.objs.size+1),H',I3,rfl,q3⟩⟩
  |next=>e False.elim hq'
  |brk=>e False.elim hq'
  |cont=>e False.elim hq'
%tmV(M:Mk X.K C f)(F:BC X.prog X.w X.K X.mg X.base CX k f fd ps sp)(hr:%9K)(hg:Gl X x)(hm:%0X=%9Z)(hb:%0Yfd ps ds)(hd:Vals dvs ds)(hx:Passes CX X E)
 (ha:PA X (e::es) t) (hdb:(x==("__debug__":Str))=false:=by decide) (he:%3d=(false,#u)::%1m:=by rfl) (hpl:%5x.any (·.1)=false:=by rfl):
 %k(&1hx p)(iy C sp dvs E t):=by
 j;e0;r &6BI.ok.mod.kin M.kp(thn (ha pos pins s σ H _ I h) λus s1 ⟨vs,H1,I1,r,q⟩=>⟨I1.kIn,?_⟩)he hpl;e Ra M F hr hb hd hx I1 r q
%tjk(M:Mk X.K C f)(F:BC X.prog X.w X.K X.mg X.base CX k f fd ps sp)(hr:%9K)(hg:Gl X x)(hm:%0X=%9Z)(hb:%0Yfd ps ds)(hd:Vals dvs ds)(hx:Passes CX X E)
 (hdb:(x==("__debug__":Str))=false:=by decide):%k(%6Hx p [])(iy C sp dvs E lT):=by
 j;e0;e PySem.W.callWith_K0 I.kIn M.kp (Ra (us:=[]) M F hr hb hd hx I .nil h)
end
section
variable{X:Cx}{CX:CXT}{k:Nat}{f C:Addr}{fd:FuncData}{ps ks:List Str}{sp:Sp}{E:XK}{x m:Str}{p pos apos kpos:Pos}{e o:Expr}{es:List Expr}{kws:List Keyword}{te ta:TE}{t tk:TA}{nm:Option Str}
variable{g:List Value→List Value→List Value}{gV:List V→List V→List V}
end
structure Aw(N P:%u)(sc:Scope):Prop where
 kind:sc.kind=.function
 co:sc.isCoroutine=false
 gen:sc.isGenerator=false
 nd:N.Nodup
 pre:N.take P.length=P
 par:∀x∈P,&0n=%0U∨&0n=%0H
 rj:∀y∈sc.names,y.2≠.free
%tXu{kindOf:Str→&6q}{x:Str}:∀{binds:&0p} {m:Str→&f},(∀v,(x,v)∉binds)→bindL kindOf binds m x=m x
 |[],_,_=>rfl
 |(n,v)::r,m,h=>by
  u bindL;rw[Xu λw hw=>h w (#ahw)];B
  ·x6
  ·a
%tXw{kindOf:Str→&6q}{x:Str}:∀{binds:&0p} {m:Str→&f},(∀v,(x,v)∉binds)→bindC kindOf binds m x=m x
 |[],_,_=>rfl
 |(n,v)::r,m,h=>by
  u bindC;rw[Xw λw hw=>h w (#ahw)];B
  ·a
  ·x6
%tXv{kindOf:Str→&6q}{x:Str}{v:Value}:∀{P:%u} {vs:%o} {i:Nat} {m:Str→&f},P.Nodup→P[i]? =%v→vs[i]? =%W→kindOf x=%0U→
 bindL kindOf &4c m x=%W
 |[],_,_,_,_,h,_,_=>by simp at h
 |_::_,[],_,_,_,_,h,_=>by simp at h
 |p::P,w::vs,0,m,nd,h1,h2,hk=>by
  simp at h1 h2;subst h1;subst h2;show bindL kindOf ((p,w)::&4c) m p=_;u bindL;rw[Xu λv hv=>&5W.1 (List.of_mem_zip hv).1,if_pos hk]
  simp
 |p::P,w::vs,i+1,m,nd,h1,h2,hk=>by
  show bindL kindOf ((p,w)::&4c) m x=_;u bindL;e Xv (i:=i) &5W.2 (by simpa using h1) (by simpa using h2) hk
%tXx{kindOf:Str→&6q}{x:Str}{v:Value}:∀{P:%u} {vs:%o} {i:Nat} {m:Str→&f},P.Nodup→P[i]? =%v→vs[i]? =%W→kindOf x≠%0U→
 bindC kindOf &4c m x=%W
 |[],_,_,_,_,h,_,_=>by simp at h
 |_::_,[],_,_,_,_,h,_=>by simp at h
 |p::P,w::vs,0,m,nd,h1,h2,hk=>by
  simp at h1 h2;subst h1;subst h2;show bindC kindOf ((p,w)::&4c) m p=_;u bindC;rw[Xw λv hv=>&5W.1 (List.of_mem_zip hv).1,if_neg hk]
  simp
 |p::P,w::vs,i+1,m,nd,h1,h2,hk=>by
  show bindC kindOf ((p,w)::&4c) m x=_;u bindC;e Xx (i:=i) &5W.2 (by simpa using h1) (by simpa using h2) hk
%dstart(N:%u)(vs:%c):St:=vs.map some++%5S(N.length-vs.length)
%dKH(CX:CXT)(P:Program)(w:World)(K:PySem.W.Frag)(mg:Str→&f)(base:Heap)(N:%u)(qual:Str)(scope:Scope)(f:Addr)(cd:Value)(A:Around)(outer:^y)(s:Shared)(H:Hp)(E:XK):Cx where
 prog:=P
 w:=w
 K:=K
 mg:=mg
 base:=base
 A:=%7mqual scope f cd
 N:=N
 s_0:=s
 H_0:=H
 env:=&0dqual scope f cd
 outer:=outer
 stack:=&0dqual scope f cd::outer
 ex:=[]
 calm:=true
 fn:=λ_=>true
 pn:=[]
 xe:=λe s'=>wpAny (model P w) (%7mqual scope f cd) (leaving (&0dqual scope f cd) e) (λ_ s''=>CX outer H s E e s'') (λe' s''=>CX outer H s E e' s'') s'
%taC{sc:Scope}{n:Nat}{x:Str}(h:&0n=%0H):∃c,(cellsFrom n sc.names []).lookup x=&q:=by
 h q:=PySem.W.cellsFrom_some sc.names n [] %9N;e Option.isSome_iff_exists.mp q
%tS5{CX:CXT}{P:Program}{w:World}{K:PySem.W.Frag}{mg:Str→&f}{base:Heap}{N ps:%u}{qual:Str}{scope:Scope}{f:Addr}{cd:Value}{A:Around}{outer:^y}{s s1:Shared}{H:Hp}{E:XK}{us:%o}{vs:%c}
 (S:Aw N ps scope) (hd:A.handled=none) (e0:Tn P w K mg base A outer s H) (hl:vs.length=ps.length) (r:%8u)
 (x:InCallC s s.heap.objs.size (bindL (&0dqual scope f cd).kindOf %3P λ_=>none) (&1N[]) (bindC (&0dqual scope f cd).kindOf %3P λ_=>none) s1):
 Inv (KH CX P w K mg base N qual scope f cd A outer s H E) [] %6F H s1:=by
 h hpl:ps.length≤N.length:=by h:=%8YS.pre;rw[List.length_take] at this;omega
 o⟨h1,tk,rfl,hk⟩:=x.done;h noA:∀b:Addr,b∉(KH CX P w K mg base N qual scope f cd A outer s H E).ex:=λb z=>%0b(show b∈([]:&H) from z)
 r⟨⟨e0.mod,S.kind,rfl,rfl,%L,λy z c h1 h2=>?_,λy hy=>?_,λy c _ h=>?_,λ_=>hd,Around.frames_deeper e0.frames,.inr (%5Vrfl),λb z=>absurd z (noA b),e0.bs,e0.bsz,λb _ _=>noA b,λb z=>absurd z (noA b),e0.OV,e0.frf⟩,
  rfl,e0.bare,Un.kept hk,⟨_,x.toInCall.ns,λi y v h1 h2 h3=>?_⟩,λy c h=>⟨_,x.cell y c h⟩,e0.hok.fresh %L,λy c h=>?_,λp hp=>%0b(show p∈([]:%G) from hp),e0.hok.kept hk,?_⟩
 ·e name_of_addr x.apart (PySem.mem_of_lookup h1) (PySem.mem_of_lookup h2)
 ·h hy:&1r=%0H∨&1r=%6c:=hy;rcases hy with hy|hy
  ·e aC hy
  ·e ^U(S.rj _ (PySem.mem_of_lookup hy))
 ·e Nat.le_of_lt (x.above y c (PySem.mem_of_lookup h))
 ·h hi:i<vs.length:=by
   u start at h2;by_cases hi:i<vs.length
   ·e hi
   ·rw[List.getElem?_append_right (by simpa using hi)] at h2;rw[List.getElem?_replicate] at h2;split at h2<;>c h2
  h ha:vs[i]? =%W:=by
   u start at h2;rw[List.getElem?_append_left (by simpa using hi),List.getElem?_map] at h2
   cases e:vs[i]? with
   |none=>rw[e] at h2;c h2
   |some a=>rw[e] at h2;c h2;rfl
  o⟨u,hu,rv⟩:=r.get ha
  h hp:ps[i]? =%4g:=by
   rw[←S.pre,List.getElem?_take_of_lt %w];e h1
  h ndP:ps.Nodup:=by rw[←S.pre];e S.nd.sublist (List.take_sublist _ _)
  r⟨u,rv,?_⟩;rcases S.par y (List.mem_of_getElem? hp) with k|k
  ·e .inl ⟨k,Xv ndP hp hu k⟩
  ·o⟨c,e⟩:=aC (n:=s.heap.objs.size+1) k;r %8G(.inl k)c e ?_;h q:=x.cell y c e;rw[Xx ndP hp hu (by show &1r≠_;rw[k];decide)] at q;e q
 ·e e0.hok.fresh (Nat.le_of_lt (x.above y c (PySem.mem_of_lookup h)))
 ·u start;show _=N.length;rw[List.length_append,List.length_map,List.length_replicate];b
%tpK{CX:CXT}{P:Program}{w:World}{K:PySem.W.Frag}{mg:Str→&f}{base:Heap}{k:Nat}{f:Addr}{name qual:Str}{params:Arguments}{body:%0V}{scope:Scope}{dV kV doc pm cdv ct oc:Value}{an od:%0v}
 {osl:&3n} {N ps:%u} {sp:Sp} (lk:K.lookup f=some ⟨oc,od,.func (PySem.W.fnOf name qual params body scope dV kV doc pm an cdv ct),osl⟩) (hcd:PySem.W.codeIn K cdv qual=true) (S:Aw N ps scope)
 (len:∀vs H Q E,sp vs H Q E→vs.length=ps.length)
 (hbody:∀(A:Around) (outer:^y) (s:Shared) (H:Hp) (vs:%c) (Q:VK) (E:XK),D3 k (%7mqual scope f cdv)→sp vs H Q E→
   ∃t,PSs (KH CX P w K mg base N qual scope f cdv A outer s H E) body t∧t {nx:=λ_ H'=>Q .non H',rt:=Q} %6F H):
 BC P w K mg base CX (k+1) f (PySem.W.fnOf name qual params body scope dV kV doc pm an cdv ct) ps sp:=by
 j8;j1
 h hkind:∀y∈%3P,scope.names.lookup y.1=%0U∨(scope.names.lookup y.1=%0H∧((&1N[]).lookup y.1).isSome=true):=λ⟨n,v⟩ hy=>by
  l3
  ·e %6l
  ·m0
 i9;k5;o⟨t,ht,hq⟩:=hbody A outer s H vs Q E (hr.deeper _) hsp;h I:Inv (KH CX P w K mg base N qual scope f cdv A outer s H E) [] %6F H s1:=S5 S hr.hd e0 hl r x;r wpAny_mono (ht [] s1 %6F H _ I hq) (λfl s' hs=>?_) λe s' hs=>hs
 h fin:∀{σ':St} {H':Hp} {v:V} {u:Value},Inv (KH CX P w K mg base N qual scope f cdv A outer s H E) [] σ' H' s'→%1p→Q v H'→CE outer P w H s Q u s':=
  λ{σ' H' v u} J rv q=>⟨v,H',J.os,J.bare,J.base,J.hok,rv,q⟩
 cases fl with
 |ret u=>
  o⟨v,σ',H',J,rv,q⟩:=hs
  e fin J rv q
 |next=>
  o⟨σ',H',J,q⟩:=hs
  e fin (v:=V.non) (u:=Value.none) J rfl q
 |brk=>
  c8
  e &1G
 |cont=>
  c8;e &1G
end L2
namespace L2
open PySem PySem.Spec PyProof.Rows
section
variable{X:Cx}{x:Str}{p pos:Pos}{e:Expr}{es:List Expr}{t:TA}{id T:String}{r:List V→Hp→VK→Prop}
%dtCB(r:%c→Hp→VK→Prop)(t:TA):TE:=λσ H Q=>t σ H λvs H1=>r vs H1 Q
%tjq(hc:Hq X %6T r)(hg:Gl X x)(hm:%0X=none)(hv:&1A=some %6T)(ha:PA X (e::es) t)(hn:x≠"__name__":=by decide)(hdb:(x==("__debug__":Str))=false:=by decide)
 (he:%3d=(false,#u)::%1m:=by rfl) (hpl:%5x.any (·.1)=false:=by rfl):%k(&1hx p)(tCB r t):=by
 j;r wpAny_Call_Name_kw (Qc I hg hm hv ?_ hn hdb);e PyProof.Rows.callWith_builtin1 (thn (ha pos pins s σ H _ I h) λus s1 ⟨vs,H1,I1,r1,q1⟩=>hc pins s1 σ H1 vs us Q I1 r1 q1) he hpl
%tfD(hc:Hq X (.type T) r)(hg:Gl X x)(hm:%0X=none)(hv:&1A=some (.type T))(ha:PA X (e::es) t)(hn:x≠"__name__":=by decide)(hdb:(x==("__debug__":Str))=false:=by decide)
 (he:%3d=(false,#u)::%1m:=by rfl) (hpl:%5x.any (·.1)=false:=by rfl):%k(&1hx p)(tCB r t):=by
 j;r wpAny_Call_Name_kw (Qc I hg hm hv ?_ hn hdb);e PyProof.Rows.callWith_type1 (thn (ha pos pins s σ H _ I h) λus s1 ⟨vs,H1,I1,r1,q1⟩=>hc pins s1 σ H1 vs us Q I1 r1 q1) he hpl
end
end L2
namespace HT
open PySem PyProof.Rows
section
open PySem.SeqAt
open PySem.AutoSeq1 (wpAny_loadPart')
open PySem.MeetsSeq PySem.MeetsSeq2 PySem.MeetsSeq3
end
section
variable{prog:Program}{w:World}{A:Around}{E:Value→Shared→Prop}{s:Shared}
%dsIx(n d:Nat):%S→Nat
 |none=>d
 |some v=>if v<0 then(v+(n:Int)).toNat else min v.toNat n
%tNp(n d:Nat):sIx n d none=d:=rfl
%tQ8(n d k:Nat):sIx n d (some (k:Int))=min k n:=by
 show(if(k:Int)<0 then((k:Int)+(n:Int)).toNat else min (k:Int).toNat n)=min k n;rw[if_neg %w,Int.toNat_natCast]
%tbp(n d:Nat)(hd:d≤n)(o:%S):sIx n d o≤n:=by
 cases o with
 |none=>e hd
 |some v=>
  show(if v<0 then(v+(n:Int)).toNat else min v.toNat n)≤n;by_cases hv:v<0
  ·rw[if_pos hv];b
  ·rw[if_neg hv];e Nat.min_le_right _ _
%tdP(v:Int)(n d:Nat):(if v<0 then max (v+(n:Int)) 0 else min v (n:Int))=((sIx n d %W:Nat):Int):=by
 show(if v<0 then max (v+(n:Int)) 0 else min v (n:Int))=(((if v<0 then(v+(n:Int)).toNat else min v.toNat n):Nat):Int);by_cases hv:v<0
 ·s[if_pos hv];b
 ·s[if_neg hv];b
%tcz(lo hi:%S)(n:Nat):Builtin.Slice.sliceAdjust lo hi 1 (n:Int)=(((sIx n 0 lo:Nat):Int),((sIx n n hi:Nat):Int)):=by
 h h1:¬((1:Int)<0):=%w;u Builtin.Slice.sliceAdjust;s[h1,if_false];r Prod.ext ?_ ?_
 ·cases lo with
  |none=>rfl
  |some v=>e dP v n 0
 ·cases hi with
  |none=>rfl
  |some v=>e dP v n n
%tbC(i j:Nat):Builtin.Slice.slicePlaces (i:Int) (j:Int) 1=j-i:=by
 u Builtin.Slice.slicePlaces;h h1:(1:Int)>0:=%w;s[h1,if_true,Int.ediv_one];split<;>omega
%tUS{v:Value}{o:%S}{Q:%S→Shared→Prop}(p:IsPart v o)(h:Q o s):#mw A(Builtin.Slice.slicePartIndex v)Q E s:=by
 cases p with
 |none=>e slicePart_none h
 |int i t=>e slicePart_int h
%tSx{sl:Addr}{vl vu:Value}{lo hi:%S}{n:Nat}{Q:Int×Int×Nat→Shared→Prop}(hs:s.heap.IsSliceOf sl vl vu .none)(pl:IsPart vl lo)(pu:IsPart vu hi)
 (h:Q (((sIx n 0 lo:Nat):Int),1,sIx n n hi-sIx n 0 lo) s):#mw A(Builtin.Slice.sliceApplied (.ref sl) (pure (n:Int)))Q E s:=by
 o⟨os,hos,hcs,hds⟩:=id hs;u Builtin.Slice.sliceApplied Builtin.Slice.sliceFields;r &1t(wpAny_field hos hds (x:=vl) rfl (wpAny_bind (wpAny_field hos hds (x:=vu) rfl (wpAny_bind (wpAny_field hos hds (x:=.none) rfl %0R)))));r wpAny_bind (slicePart_none ?_);show #A_ _(if((1:Int)==0)=true then _ else _)_ _;e7;r wpAny_bind (US pl (wpAny_bind (US pu %5h)));show #A_ _(match Builtin.Slice.sliceAdjust lo hi 1 (n:Int) with|(lo,hi)=>pure (lo,(1:Int),Builtin.Slice.slicePlaces lo hi 1))_ _;rw[cz lo hi n];show #A_ _(pure (((sIx n 0 lo:Nat):Int),(1:Int),Builtin.Slice.slicePlaces ((sIx n 0 lo:Nat):Int) ((sIx n n hi:Nat):Int) 1))_ _;rw[bC];e &0t
%tjg(xs:%0G)(i k:Nat):((List.range k).filterMap λ(m:Nat)=>xs[((i:Int)+(m:Int)*1).toNat]?).toArray=((xs.toList.drop i).take k).toArray:=by
 h e:(λ(m:Nat)=>xs[((i:Int)+(m:Int)*1).toNat]?)=λm=>xs[i+m]?:=by
  funext m;h:((i:Int)+(m:Int)*1).toNat=i+m:=%w;l
 t;h:=pick_run xs i k;rw[List.filterMap_map] at this;h e2:((λx=>xs[x]?)∘λx=>i+x)=λm=>xs[i+m]?:=rfl;rw[e2] at this;l
%tRR{t sl:Addr}{items:%0G}{vl vu:Value}{lo hi:%S}{Q:Value→Shared→Prop}(ht:IsTup s.heap t items)(hs:s.heap.IsSliceOf sl vl vu .none)(pl:IsPart vl lo)(pu:IsPart vu hi)
 (hw:¬(sIx items.size 0 lo=0∧%6bitems.size hi=items.size))
 (h:Q %6R {s with heap:=s.heap.push {cls:=#M,data:=.seq ((items.toList.drop (%6b0 lo)).take (sIx items.size items.size hi-%6b0 lo)).toArray}})
 (hsz:items.size≤sizeLine):#mw A(getItem (.ref t) (.ref sl))Q E s:=by
 h htake:sizeOk (.seq ((items.toList.drop (%6b0 lo)).take (sIx items.size items.size hi-%6b0 lo)).toArray):=by
  show((items.toList.drop (%6b0 lo)).take (sIx items.size items.size hi-%6b0 lo)).toArray.size≤sizeLine;t2
 h hj:%6bitems.size hi≤items.size:=bp _ _ %L hi;o⟨os,hos,hcs,hds⟩:=id hs;h hTs:s.TypeIs (.ref sl) "slice":=⟨os,hos,hcs⟩;u getItem
 try with_reducible r wpAny_holding ?_
 first|r %5h|skip
 r wpAny_bind (wpAny_sequenceKey ht.typeIs (by decide) ?_)
 r wpAny_bind (wpAny_callSpecial?_slot (name:=Str.ofString "__getitem__") ht.typeIs PyProof.Rows.slot_tuple_getitem
  (&4gPyProof.Rows.slot_tuple_getitem ht.typeIs entry_tuple_getitem(args_tuple_getitem _ _)))
 show #A_ _(Builtin.Tuple.tupleItemsOf (.ref t)>>= _)_ _;r wpAny_bind (tupleItemsOf_ ht ?_);r wpAny_bind (wpAny_typeOf hTs ?_);rw[if_pos (by decide)];r wpAny_bind (Sx hs pl pu ?_)
 h hno:¬((((sIx items.size 0 lo:Nat):Int)==0&&(1:Int)==1&&(sIx items.size items.size hi-%6b0 lo)==items.size)=true):=by
  intro q;rw[Bool.and_eq_true,Bool.and_eq_true] at q;h q1:((sIx items.size 0 lo:Nat):Int)=0:=eq_of_beq q.1.1;h q2:%6bitems.size hi-%6b0 lo=items.size:=eq_of_beq q.2;e hw ⟨%w,%w⟩
 show #A_ _(if(((sIx items.size 0 lo:Nat):Int)==0&&(1:Int)==1&&(sIx items.size items.size hi-%6b0 lo)==items.size)=true then _ else _)_ _;rw[if_neg hno,jg]
 first
  |e wpAny_bind (m:=&5M) (&6k(&3P_ rfl&0t))
  |e wpAny_bind (m:=&5M) (&6k(%8X(&3P_ rfl&0t)))
  |e wpAny_bind (wpAny_bind (m:=&5M) (&6k(wpAny_pure (&3P_ rfl&0t))))
  |e wpAny_bind (wpAny_bind (m:=&5M) (&6k(&3P_ rfl&0t)))
end
end HT
namespace L2
open PySem PySem.Spec PyProof.Rows
abbrev TO:=St→Hp→(Option Int→Hp→Prop)→Prop
%dPO(X:Cx)(e:&2K)(t:TO):Prop:=
 ∀(pins:%G) (s:Shared) (σ:St) (H:Hp) (Q:%S→Hp→Prop),%f→t σ H Q→
  #i(evalPart e X.env)(λu s'=>∃o H',&OH' s'∧IsPart u o∧Q o H')
%dlS:TO:=λ_ H Q=>Q none H
%dsX(t:TE):TO:=λσ H Q=>t σ H λx H1=>∃i,x=^x∧Q (some i) H1
section
variable{X:Cx}{e:Expr}{te:TE}{lo hi:Option Expr}{tl th:TO}{pos p2:Pos}
%tmO:PO X none lS:=by
 j;rw[evalPart_none];e wpAny_pure ⟨none,H,I,.none,h⟩
%tmM(h:%ke te):PO X (some e) (sX te):=by
 intro pins s σ H Q I hw;rw[evalPart_some];r thn (h pins s σ H _ I hw) λu s1 ⟨x,H1,I1,r1,q1⟩=>?_;o⟨i,rfl,q⟩:=q1;o⟨t,rfl⟩:=r1;e⟨some i,H1,I1,.int i t,q⟩
%dSlR(X:Cx)(r:V→%S→%S→Hp→VK→Prop):Prop:=
 ∀(pins:%G) (s:Shared) (σ:St) (H:Hp) (x:V) (v vl vu:Value) (lo hi:%S) (sl:Addr) (Q:VK),%f→%5K→s.heap.IsSliceOf sl vl vu .none→IsPart vl lo→IsPart vu hi→r x lo hi H Q→
  ∃T id,typeLookup (.type T) "__getitem__"=pure (some %6T)∧s.TypeIs v T∧#i(getItem v (.ref sl))(EP X pins σ Q)
%tSlR.or{r r':V→%S→%S→Hp→VK→Prop}(h:SlR X r)(h':SlR X r'):SlR X (λx lo hi H Q=>r x lo hi H Q∨r' x lo hi H Q):=by
 intro pins s σ H x v vl vu lo hi sl Q I rx hs pl pu q;f2
 ·e h pins s σ H x v vl vu lo hi sl Q I rx hs pl pu q
 ·e h' pins s σ H x v vl vu lo hi sl Q I rx hs pl pu q
%dtSl(r:V→%S→%S→Hp→VK→Prop)(te:TE)(tl th:TO):TE:=λσ H Q=>te σ H λx H1=>tl σ H1 λl H2=>th σ H2 λu H3=>r x l u H3 Q
%tji{r:V→%S→%S→Hp→VK→Prop}(hr:SlR X r)(he:%ke te)(hl:PO X lo tl)(hu:PO X hi th):%k(%9re(.Slice lo hi none p2))(tSl r te tl th):=by
 j;r Subscript_ (thn (he pins s σ H _ I h) λv s1 ⟨x,H1,I1,r1,q1⟩=>?_);r wpAny_Slice (thn (hl pins s1 σ H1 _ I1 q1) λvl s2 ⟨l,H2,I2,pl,q2⟩=>thn (hu pins s2 σ H2 _ I2 q2) λvu s3 ⟨u,H3,I3,pu,q3⟩=>?_);rw[evalPart_none];r %0R;h I4:&OH3 {s3 with heap:=s3.heap.push {cls:=.type "slice",data:=.fields #[vl,vu,.none]}}:=I3.kept (t':=s3.toks) λb ob q=>%6y;o⟨T,id,hT,ht,hg⟩:=hr pins {s3 with heap:=s3.heap.push {cls:=.type "slice",data:=.fields #[vl,vu,.none]}} σ H3 x v vl vu l u s3.heap.objs.size Q I4 r1 (Heap.IsSliceOf.new ..) pl pu q3;show %1y(subscriptTail e (.Slice lo hi none p2) v (.ref s3.heap.objs.size))(EP X pins σ Q){s3 with heap:=s3.heap.push {cls:=.type "slice",data:=.fields #[vl,vu,.none]}};e tail_any (ops:=[.ref s3.heap.objs.size,v]) ht hT hg (by with_unfolding_all rfl)
%day(xs:%c)(lo hi:%S):%c:=(xs.drop (%7a0 lo)).take (HT.sIx xs.length xs.length hi-%7a0 lo)
%tTY(xs:%c)(lo hi:%S):(ay xs lo hi).length≤xs.length:=by
 u ay;rw[List.length_take,List.length_drop];b
%dtN(K:PySem.W.Frag):V→%S→%S→Hp→VK→Prop:=λx lo hi H Q=>∃a xs,x=%N∧SqT K H a xs∧
 ¬(HT.sIx xs.length 0 lo=0∧%7axs.length hi=xs.length)∧∀p,%0q=none→%1S(%Yp(.tup (ay xs lo hi)))
%tiC:SlR X (tN X.K):=by
 k8;o⟨a,xs,rfl,hx,hw,q⟩:=h;m;o⟨its,r,ht,hz⟩:=I.tuple hx;h hlen:its.toArray.size=xs.length:=by rw[List.size_toArray];e r.length.symm
 r⟨"tuple",_,PyProof.Rows.slot_tuple_getitem.lookup,ht.typeIs,?_⟩;r HT.RR ht hs pl pu (by rw[hlen];e hw) ?_ (by rw[hlen];e hz);rw[hlen];r⟨.ref s.heap.objs.size,_,I.laid (t':=s.toks) (o:=.tup (ay xs lo hi)) (λb ob q=>%6y) %L ?_,rfl,q _ %5f⟩;e⟨Nat.le_trans (TY xs lo hi) hz,_,(r.drop (%7a0 lo)).take (HT.sIx xs.length xs.length hi-%7a0 lo),IsTup.new _ _⟩
end
end L2
namespace L2
open PySem PySem.Spec PyProof.Rows
%dixN(n:Nat)(i:Int):&3x:=if 0≤i then(if i<n then some i.toNat else none) else if-(n:Int)≤i then some (i+n).toNat else none
%datI{α:Type}(xs:#y)(i:Int):Option α:=(ixN xs.length i).bind λj=>xs[j]?
%tnL{n:Nat}{i:Int}{j:Nat}(h:ixN n i=some j):seqIndex? i n=some j∧j<n∧-(n:Int)≤i∧i<n:=by
 u ixN at h;by_cases h0:0≤i
 ·rw[if_pos h0] at h;by_cases h1:i<n
  ·rw[if_pos h1] at h;h e:i.toNat=j:=Option.some.inj h;e⟨by rw[seqIndex_of h0 h1,e],%w,%w,h1⟩
  ·rw[if_neg h1] at h;c h
 ·rw[if_neg h0] at h;by_cases h1:-(n:Int)≤i
  ·rw[if_pos h1] at h;h e:(i+n).toNat=j:=Option.some.inj h;e⟨by rw[seqIndex_neg %w h1,e],%w,h1,%w⟩
  ·rw[if_neg h1] at h;c h
%tYU{α:Type}{xs:#y}{i:Int}{v:α}(h:atI xs i=%W):∃j,seqIndex? i xs.length=some j∧xs[j]? =%W∧j<xs.length∧-(xs.length:Int)≤i∧i<xs.length:=by
 u atI at h
 cases e:ixN xs.length i with
 |none=>rw[e] at h;c h
 |some j=>
  rw[e] at h;o⟨h1,h2,h3,h4⟩:=nL e;e⟨j,h1,h,h2,h3,h4⟩
%dd7(b:Expr):Prop:=∀o i,subscripted b false o i=operate [o,i] (getItem o i)
%dIxR(X:Cx)(r:R2):Prop:=
 ∀(value slice:Expr) (pins:%G) (s:Shared) (σ:St) (H:Hp) (x y:V) (v u:Value) (Q:VK),%f→%5K→%0L→r x y H Q→
  subscripted slice false v u=operate [v,u] (getItem v u)→#i(subscriptTail value slice v u)(EP X pins σ Q)
%dMtR(X:Cx)(id:String)(r:V→%c→Hp→VK→Prop):Prop:=
 ∀(pins:%G) (s:Shared) (σ:St) (H:Hp) (x:V) (xs:%c) (v:Value) (us:%o) (Q:VK),%f→%5K→%4e→r x xs H Q→
  #i(call %6T (v::us))(EP X pins σ Q)
section
variable{X:Cx}{a b:Expr}{ta tb:TE}{pos:Pos}
%tIxR.or{r r':R2}(h:IxR X r)(h':IxR X r'):IxR X (λx y H Q=>r x y H Q∨r' x y H Q):=by
 intro value slice pins s σ H x y v u Q I rx ry q hs;f2
 ·e h value slice pins s σ H x y v u Q I rx ry q hs
 ·e h' value slice pins s σ H x y v u Q I rx ry q hs
%tMtR.or{id:String}{r r':V→%c→Hp→VK→Prop}(h:MtR X id r)(h':MtR X id r'):MtR X id (λx xs H Q=>r x xs H Q∨r' x xs H Q):=by
 intro pins s σ H x xs v us Q I rx rs q;f2
 ·e h pins s σ H x xs v us Q I rx rs q
 ·e h' pins s σ H x xs v us Q I rx rs q
%tt9{r:R2}(hr:IxR X r)(ha:%6G)(hb:%kb tb)(hs:d7 b):%k(%9ra b)(tOp r ta tb):=by
 j;e Subscript_ (si ha hb I h λv u s2 x y H2 I2 rx ry q=>hr a b pins s2 σ H2 x y v u Q I2 rx ry q (hs _ _))
%dtU(K:PySem.W.Frag):R2:=λx y H Q=>∃p xs i v,x=%7Q∧y=^x∧SqL K H p xs∧atI xs i=%W∧Q v H
%dtS(K:PySem.W.Frag):R2:=λx y H Q=>∃p xs i v,x=%7Q∧y=^x∧SqT K H p xs∧atI xs i=%W∧Q v H
%dtT:R2:=λx y H Q=>∃z i c,x=&1c∧y=^x∧z.length≤sizeLine∧atI z.cps.toList i=&q∧Q %9k H
%tnJ:IxR X (tU X.K):=by
 l0;o⟨p,xs,i,z,rfl,rfl,hq,he,q⟩:=h;m;o⟨t,rfl⟩:=ry;o⟨its,r,pl,hz⟩:=&5z;n4;o⟨w,ew,rw'⟩:=r.get h2;h hl:=r.length;h hn:=SY;h fin:EP X pins σ Q w s:=⟨z,H,I,rw',q⟩;by_cases h0:0≤i
 ·h hj:i.toNat=j:=by
   rw[seqIndex_of h0 h5] at h1;e Option.some.inj h1
  e item_listR pl.isList h0 %w (by rw[hj];simpa using ew) fin hs
 ·h hj:(i+(its.toArray.size:Int)).toNat=j:=by
   rw[seqIndex_neg %w h4] at h1;rw[List.size_toArray,←hl];e Option.some.inj h1
  e subscriptTail_builtinR (x:=w) pl.isList.typeIs slot_list_getitem.lookup
   (wpAny_getItem_list_neg (Q:=λr s'=>r=w∧EP X pins σ Q r s') pl.isList %w (by rw[List.size_toArray]<;>omega) %w (by rw[hj];simpa using ew) (%4ifin)) hs
%trE:IxR X (tS X.K):=by
 l0;o⟨p,xs,i,z,rfl,rfl,hq,he,q⟩:=h;m;o⟨t,rfl⟩:=ry;n5;n4;o⟨w,ew,rw'⟩:=r.get h2;h hl:=r.length;h hn:=SY;h fin:EP X pins σ Q w s:=⟨z,H,I,rw',q⟩
 e subscriptTail_builtinR (x:=w) pl.typeIs slot_tuple_getitem.lookup
  (getItem_tuple (j:=j) (Q:=λr s'=>r=w∧EP X pins σ Q r s') pl %w %w (by rw[List.size_toArray,←hl];e h1) (by simpa using ew) (%4ifin)) hs
%trF:IxR X tT:=by
 l0;o⟨z,i,c,rfl,rfl,hz,he,q⟩:=h;x;a3;n4;h hl:z.cps.toList.length=z.length:=by simp[Str.length]
 rw[hl] at h1 h4 h5;h hn:=SY
 e tail_any (typeIs_str s z t) slot_str_getitem.lookup (getItem_str (c:=c) (by
  h e1:decide (i< -(2^63:Int))=false:=&0f;h e2:decide (i≥2^63)=false:=&0f
  rw[e1,e2,Bool.or_false]) (by rw[h1];simpa using h2) ⟨.str ⟨#[c]⟩,H,%1B,⟨_,rfl⟩,q⟩) hs
%drIx(K:PySem.W.Frag):R2:=λx y H Q=>tU K x y H Q∨tS K x y H Q∨tT x y H Q
%trG:IxR X (rIx X.K):=nJ.or (rE.or rF)
%tInv.lst{pins:%G}{σ:St}{H:Hp}{s:Shared}{p:Addr}{xs:%c}(I:%f)(h:%0q=%9Q):
 ∃(its:%o) (n:Nat),%9W∧s.heap.get? p=some {cls:=%0c,data:=&1Jn}∧xs.length≤sizeLine:=by
 o⟨z,its,n,r,e⟩:=I.hok p _ h;e⟨its,n,r,e,z⟩
%tXZ(lo hi:%S)(n:Nat):(sliceBounds lo hi none n).1=((HT.sIx n 0 lo:Nat):Int)∧(sliceBounds lo hi none n).2.1=((HT.sIx n n hi:Nat):Int)∧(sliceBounds lo hi none n).2.2=1:=by
 r⟨?_,?_,rfl⟩
 ·cases lo with
  |none=>simp[sliceBounds,HT.sIx]
  |some i=>
   s2
   ·s[h,if_true]<;>omega
   ·s[h,if_false]<;>omega
 ·cases hi with
  |none=>simp[sliceBounds,HT.sIx]
  |some i=>
   s2
   ·s[h,if_true]<;>omega
   ·s[h,if_false]<;>omega
%tWa(its:%o)(lo hi:%S):slicePick its.toArray lo hi none=((its.drop (HT.sIx its.length 0 lo)).take (HT.sIx its.length its.length hi-HT.sIx its.length 0 lo)).toArray:=by
 o⟨h1,h2,h3⟩:=XZ lo hi its.toArray.size;u slicePick;rw[h1,h2,h3];s[sliceRange_one,pick_run,List.size_toArray]<;>rfl
%dtP(K:PySem.W.Frag):V→%S→%S→Hp→VK→Prop:=λx lo hi H Q=>∃a xs,x=%N∧SqL K H a xs∧∀p,%0q=none→%1S(^VH p(ay xs lo hi))
%tlW:SlR X (tP X.K):=by
 k8;o⟨a,xs,rfl,hx,q⟩:=h;m;o⟨its,r,ht,hz⟩:=I.list hx;h hlen:=r.length;r⟨"list",_,slot_list_getitem.lookup,ht.isList.typeIs,?_⟩;r wpAny_getItem_list_slice ht.isList hs pl pu .none (by simp) ?_ (by rw[List.size_toArray]<;>omega);rw[Wa,←hlen];r⟨.ref s.heap.objs.size,_,I.laid (t':=s.toks) (o:=.lst (ay xs lo hi)) (λb ob q=>%6y) %L ?_,rfl,q _ %5f⟩;e⟨Nat.le_trans (TY xs lo hi) hz,_,0,(r.drop (%7a0 lo)).take (HT.sIx xs.length xs.length hi-%7a0 lo),^l⟩
%dHm:V→Bool
 |.non=>true
 |.bl _=>true
 |.int _=>true
 |.str _=>true
 |_=>false
%deqV:V→V→Bool
 |.non,.non=>true
 |.bl a,%7A=>a==b
 |.bl a,.int b=>(if a then 1 else 0)==b
 |.int a,%7A=>a==(if b then 1 else 0)
 |.int a,.int b=>a==b
 |.str a,.str b=>a==b
 |_,_=>false
%trP{A:Around}{s:Shared}{y x:V}{u v:Value}(ry:%0L)(rx:%5K)(fy:Hm y=true)(fx:Hm x=true):SeqAt.EqAt A s u v (eqV y x):=by
 cases y with
 |non=>
  c ry
  cases x with
  |non=>c rx;e SeqAt.EqAt.same _
  |bl b=>c rx;e SeqAt.EqAt.none_bool b
  |int b=>o⟨t,rfl⟩:=rx;e SeqAt.EqAt.none_int b t
  |str b=>o⟨t,rfl⟩:=rx;e SeqAt.EqAt.none_str b t
  |_=>e &5K
 |bl a=>
  c ry
  cases x with
  |non=>c rx;e SeqAt.EqAt.bool_none a
  |bl b=>c rx;e SeqAt.EqAt.bool_bool a b
  |int b=>o⟨t,rfl⟩:=rx;e SeqAt.EqAt.bool_int a b t
  |str b=>o⟨t,rfl⟩:=rx;e SeqAt.EqAt.bool_str a b t
  |_=>e &5K
 |int a=>
  a3
  cases x with
  |non=>c rx;e SeqAt.EqAt.int_none a t'
  |bl b=>c rx;e SeqAt.EqAt.int_bool a t' b
  |int b=>o⟨t,rfl⟩:=rx;e SeqAt.EqAt.int_int a t' b t
  |str b=>o⟨t,rfl⟩:=rx;e SeqAt.EqAt.int_str a t' b t
  |_=>e &5K
 |str a=>
  a3
  cases x with
  |non=>c rx;e SeqAt.EqAt.str_none a t'
  |bl b=>c rx;e SeqAt.EqAt.str_bool a t' b
  |int b=>o⟨t,rfl⟩:=rx;e SeqAt.EqAt.str_int a t' b t
  |str b=>o⟨t,rfl⟩:=rx;e SeqAt.EqAt.str_str a t' b t
  |_=>e &5K
 |_=>e &2A(show false=true from fy)
%deqU(x:V)(u:Value):Bool:=match u with
 |.none=>eqV .non x
 |.bool b=>eqV %7A x
 |.int i _=>eqV ^x x
 |.str z _=>eqV &1c x
 |_=>false
%tYH{x y:V}{u:Value}(r:%0L)(f:Hm y=true):eqU x u=eqV y x:=by
 cases y with
 |non=>c r;rfl
 |bl b=>c r;rfl
 |int i=>o⟨t,rfl⟩:=r;rfl
 |str z=>o⟨t,rfl⟩:=r;rfl
 |_=>e &2A(show false=true from f)
%tSl{x:V}:∀{xs:%c} {us:%o},%4e→xs.all Hm=true→us.any %8s=xs.any λy=>eqV y x
 |_,_,.nil,_=>rfl
 |y::xs,u::us,%5It,f=>by
  rw[List.all_cons,Bool.and_eq_true] at f;rw[List.any_cons,List.any_cons,YH r f.1,Sl t f.2]
%tLj{A:Around}{s:Shared}{x:V}{v:Value}(rx:%5K)(fx:Hm x=true):∀{xs:%c} {us:%o},%4e→xs.all Hm=true→∀u∈us,SeqAt.EqAt A s u v (eqU x u)
 |_,_,.nil,_=>λu hu=>by c hu
 |y::xs,u::us,%5It,f=>λu' hu=>by
  rw[List.all_cons,Bool.and_eq_true] at f;rcases List.mem_cons.mp hu with rfl|hu
  ·rw[YH r f.1];e rP r rx f.1 fx
  ·e Lj rx fx t f.2 u' hu
%dinV(x:V)(xs:%c):Bool:=xs.any λy=>eqV y x
%drIn(K:PySem.W.Frag)(neg:Bool):R2:=λx y H Q=>∃p xs,y=%7Q∧(SqL K H p xs∨SqT K H p xs)∧Hm x=true∧xs.all Hm=true∧^N(if neg then !inV x xs else inV x xs)H
%tSN:%3eX .In(rIn X.K false):=by
 M;o⟨p,xs,rfl,hq,fx,fs,q⟩:=h;c ry;i4
 ·o⟨its,r,pl,hz⟩:=I.list hq;r SeqAt.in_listAt %8s pl.isList (λw hw=>Lj rx fx r fs w (by simpa using hw)) ⟨.bl _,H,I,rfl,?_⟩;g1
 ·n5;r SeqAt.in_tupleAt %8s pl (λw hw=>Lj rx fx r fs w (by simpa using hw)) ⟨.bl _,H,I,rfl,?_⟩;g1
%tRf:%3eX .NotIn(rIn X.K true):=by
 M;o⟨p,xs,rfl,hq,fx,fs,q⟩:=h;c ry;i4
 ·o⟨its,r,pl,hz⟩:=I.list hq;r SeqAt.notIn_listAt %8s pl.isList (λw hw=>Lj rx fx r fs w (by simpa using hw)) ⟨.bl _,H,I,rfl,?_⟩;g1
 ·n5;r SeqAt.notIn_tupleAt %8s pl (λw hw=>Lj rx fx r fs w (by simpa using hw)) ⟨.bl _,H,I,rfl,?_⟩;g1
%tYQ:Hq X &4C (λxs H Q=>∃p ys,xs=[.ref p]∧(SqL X.K H p ys∨SqT X.K H p ys)∧%4oys.length H):=by
 b7;o⟨p,ys,rfl,hq,q⟩:=h;o⟨u,rfl,rx⟩:=vals1 r;m;h hn:=SY;i4
 ·o⟨its,r',pl,hz⟩:=I.list hq;h hlen:=r'.length;e Calls.call_len_list pl.isList (by s[List.size_toArray]<;>omega) (%6C(.int ys.length)H⟨s.toks+1,by rw[List.size_toArray,hlen]⟩q)
 ·o⟨its,r',pl,hz⟩:=I.tuple hq;h hlen:=r'.length;e len_tuple pl (by s[List.size_toArray]<;>omega) (%6C(.int ys.length)H⟨s.toks+1,by rw[List.size_toArray,hlen]⟩q)
%tYO:Hq X &4C (λxs H Q=>∃z,xs=[.str z]∧z.length≤sizeLine∧%4oz.length H):=by
 b7;o⟨z,rfl,hz,q⟩:=h;o⟨u,rfl,t,rfl⟩:=vals1 r;h hn:=SY;e len_str %w (%6C(.int z.length)H%6x q)
%tHq.or{f:Value}{r r':%c→Hp→VK→Prop}(h:Hq X f r)(h':Hq X f r'):Hq X f (λxs H Q=>r xs H Q∨r' xs H Q):=by
 intro pins s σ H xs us Q I rs q;f2
 ·e h pins s σ H xs us Q I rs q
 ·e h' pins s σ H xs us Q I rs q
%tYN:Hq X %0c (λxs H Q=>∃p ys,xs=[.ref p]∧(SqL X.K H p ys∨SqT X.K H p ys)∧∀l,H l=none→Q %9V (^VH l ys)):=by
 b7;o⟨p,ys,rfl,hq,q⟩:=h;o⟨u,rfl,rx⟩:=vals1 r;m
 h fin:∀(its:%o),Vals ys its→ys.length≤sizeLine→∀(h':Heap) (c':Nat),(∀b o',%0t=some o'→#Q=some o')→
  h'.get? s.heap.objs.size=some {cls:=%0c,dict:=none,data:=&1Jc',slots:=#[]}→EP X pins σ Q %6R {s with heap:=h'}:=λits r' hz h' c' kp e=>
  ⟨.ref s.heap.objs.size,_,I.laid (t':=s.toks) kp %L (show C2 X.prog X.w _ h' _ (.lst ys) from⟨hz,its,c',r',e⟩),rfl,q _ %5f⟩
 i4
 ·o⟨its,r',pl,hz⟩:=I.list hq;h hlen:=r'.length;o⟨o,ho,hc,n,hd⟩:=pl.isList;e call_list_seq p %U ho hc hd (λh' c' kp e=>fin its r' hz h' c' kp e) (by s[List.size_toArray]<;>omega)
 ·o⟨its,r',pl,hz⟩:=I.tuple hq;h hlen:=r'.length;o⟨o,ho,hc,n,hd⟩:=pl;e call_list_seq p %1j ho hc hd (λh' c' kp e=>fin its r' hz h' c' kp e) (by s[List.size_toArray]<;>omega)
%dtyV(K:PySem.W.Frag)(T:String)(x:V)(H:Hp):Prop:=match x with
 |.str _=>T="str"
 |.int _=>T="int"
 |.ref p=>(T="list"∧∃xs,SqL K H p xs)∨(T="tuple"∧∃o,K.lookup p=%b∧o.cls=#M∧o.dict=none)∨
   (T="dict"∧((∃kvs,%0q=%5p)∨∃kvs,%0q=&5v))∨(T="set"∧∃S n,%0q=some (.set S n))
 |_=>False
%tpV{pins:%G}{σ:St}{H:Hp}{s:Shared}{T:String}{x:V}{v:Value}(I:%f)(r:%5K)(ty:tyV X.K T x H):
 s.TypeIs v T∧∀a,v=%N→∃ob,s.heap.get? a=some ob∧ob.dict=none:=by
 cases x with
 |str z=>
  c0;c(show T="str" from ty)
  e⟨typeIs_str s z t,λ_ e=>nomatch e⟩
 |int i=>
  c0;c(show T="int" from ty)
  e⟨typeIs_int s i t,λ_ e=>nomatch e⟩
 |ref p=>
  c r;rcases ty with⟨rfl,xs,hq⟩|⟨rfl,o,hk,hc,hd⟩|⟨rfl,hk⟩|⟨rfl,S,n,hk⟩
  ·o⟨its,_,pl,_⟩:=I.list hq;r⟨pl.isList.typeIs,λa e=>?_⟩;d;o⟨o,n,e,c,hd,_⟩:=pl;e⟨o,e,hd⟩
  ·r⟨⟨o,I.kIn p o hk,hc⟩,λa e=>?_⟩;d;e⟨o,I.kIn _ o hk,hd⟩
  ·h z:∃o,s.heap.get? p=%b∧o.ExactDict:=by
    rcases hk with⟨kvs,hk⟩|⟨kvs,hk⟩
    ·y7
    ·y7
   o⟨o,e,ex⟩:=z;r⟨⟨o,e,ex.1⟩,λa e2=>?_⟩;c e2;e⟨o,e,ex.2.1⟩
  ·o⟨o,_,_,_,e,ex,_⟩:=I.hok p _ hk;r⟨⟨o,e,ex.1⟩,λa e2=>?_⟩;c e2
   e⟨o,e,ex.2.1⟩
 |_=>e False.elim ty
%dtBM(K:PySem.W.Frag)(T:String)(r:V→%c→Hp→VK→Prop)(to:TE)(t:TA):TE:=λσ H Q=>to σ H λx H1=>tyV K T x H1∧t σ H1 λxs H2=>r x xs H2 Q
variable{o e:Expr}{es:List Expr}{to:TE}{t:TA}{name:Str}{apos cpos:Pos}{T id:String}{r:V→List V→Hp→VK→Prop}
%tjr(pa:PlainAttrs T)(slot:Slot T name id)(hty:&3k=&3v)(hm:MtR X id r)(ho:%ko to)(ha:PA X (e::es) t)
 (hbase:%4Co name%0M=%0M:=by rfl)
 (hfew:((%6D(e::es)).all (λx=>!x.1)&&(%7Hcpos []).all (λx=>x.1.isSome)
   &&decide ((e::es).length+([]:&0G).length+(if([]:&0G).isEmpty then 0 else 1)<30))=true:=by rfl)
 (hline:(apos.endLine==cpos.line)=true:=by rfl) (hs:%3d=(false,#u)::%1m:=by rfl) (hplain:(%6Des).any (·.1)=false:=by rfl):
 %k(^Yo name(e::es)cpos)(tBM X.K T r to t):=by
 j;r wpAny_Call_method_late hbase hfew hline rfl (thn (ho pins s σ H _ I h) λv s1 ⟨x,H1,I1,r1,ty,q1⟩=>?_);o⟨h1,h2⟩:=pV I1 r1 ty;r⟨T,id,pa,slot,hty,h1,h2,?_⟩;h hA:=ha cpos pins s1 σ H1 _ I1 q1;rw[hs] at hA ⊢;r Calls.callWith_builtin (by show(false||(%6Des).any (·.1))=false;rw[hplain]<;>rfl) (Calls.evalArgs_plain ?_);e thn hA λus s2 ⟨vs,H2,I2,r2,q2⟩=>hm pins s2 σ H2 x vs v us Q I2 r1 r2 q2
end
end L2
namespace L2
open PySem PySem.Spec PyProof.Rows
%dMtM(X:Cx)(id:String)(r:V→%c→Hp→VK→Prop):Prop:=
 ∀(pins:%G) (s:Shared) (σ:St) (H:Hp) (x:V) (xs:%c) (v:Value) (us:%o) (Q:VK),%f→%5K→%4e→r x xs H Q→
  #i(call %6T (v::us))(EP X pins σ Q)
%tVals.one:∀{x:V} {us:%o},%4I[x]→∃u,us=[u]∧RelV x u
 |_,_,%4Pr=>⟨_,rfl,r⟩
%tVals.two:∀{x y:V} {us:%o},%4I[x,y]→∃u v,us=[u,v]∧%4Gx∧RelV y v
 |_,_,_,%5I(%4Pq)=>⟨_,_,rfl,r,q⟩
%tVals.zero:∀{us:%o},%4I[]→us=[]
 |_,.nil=>rfl
%tVals.dropLast{xs:%c}{us:%o}(h:%4e):Vals xs.dropLast us.dropLast:=by
 induction h with
 |nil=>e .nil
 |cons r t ih=>
  cases t with
  |nil=>e .nil
  |cons q t'=>e %5Iih
%tVals.rep{xs:%c}{us:%o}(h:%4e):∀k:Nat,Vals (%7Txs).flatten (%7Tus).flatten
 |0=>.nil
 |k+1=>by
  rw[List.replicate_succ,List.replicate_succ,List.flatten_cons,List.flatten_cons];e Vals.append h (Vals.rep h k)
%tfoldl_rep(its:%o):∀(k:Nat) (acc:%o),
 List.foldl (λx1 x2=>x1++x2) acc.toArray (%7Tits.toArray)=(acc++(%7Tits).flatten).toArray
 |0,acc=>by simp
 |k+1,acc=>by
  h e:acc.toArray++its.toArray=(acc++its).toArray:=by simp
  h e2:(acc++its)++(%7Tits).flatten=acc++(List.replicate (k+1) its).flatten:=by
   rw[List.replicate_succ,List.flatten_cons,List.append_assoc]
  rw[←e2,←foldl_rep its k (acc++its),←e,List.replicate_succ,List.foldl_cons]
section
variable{X:Cx}{pins:List (Addr×Obj)}{σ:St}{H:Hp}{s:Shared}{l b:Addr}{xs ys zs:List V}
%tInv.ug{its its':%o}{n:Nat}{f:%0G→%0G}{t':Nat}(I:%f)(hH:H l=%9Q)
 (e:s.heap.get? l=some {cls:=%0c,data:=&1Jn}) (hf:f its.toArray=its'.toArray) (hv:Vals ys its') (hz:ys.length≤sizeLine):
 &O(^VH l ys){s with heap:=s.heap.update l (Obj.mapSeq f),toks:=t'}:=by
 h q:=PySem.IsL.update e f;rw[hf] at q;r I.write (x:=l) (e:=l) (by rw[hH];e trivial) %U (λb' u hb hu=>(&2Gs.heap(Obj.mapSeq f)hb).trans hu) ⟨_,q⟩ ?_;e⟨hz,its',_,hv,q⟩
%tInv.uh{its:%o}{t':Nat}(I:%f)(hv:Vals ys its)(hz:ys.length≤sizeLine):
 &O(^VH s.heap.objs.size ys){s with heap:=s.heap.push {cls:=%0c,data:=.seq its.toArray},toks:=t'}:=
 I.laid (λ_ _ q=>%6y) %L ⟨hz,its,0,hv,^l⟩
%tInv.fresh(I:%f):H s.heap.objs.size=none:=%5f
%tInv.fU(I:%f)(hH:H l=%9Q):xs.length≤sizeLine∧∃(its:%o) (n:Nat),%9W∧xs.length=its.length∧s.heap.get? l=some {cls:=%0c,data:=&1Jn}:=by
 o⟨z,its,n,r,e⟩:=I.hok l _ hH;e⟨z,its,n,r,r.length,e⟩
%tZH{n:Nat}(h:n≤sizeLine):Builtin.List.listTooLong n=false:=by
 u Builtin.List.listTooLong;e &0f
end
section
variable{X:Cx}
%dcT:V→%c→Hp→VK→Prop:=λx vs H Q=>∃l xs y,x=%9V∧vs=[y]∧H l=%9Q∧xs.length<sizeLine∧Q .non (^VH l(xs++[y]))
%tE5:MtM X "list.append" cT:=by
 intro pins s σ H x vs v us Q I rx rv h;o⟨l,xs,y,rfl,rfl,hH,hz,q⟩:=h;m;o⟨u,rfl,ru⟩:=rv.one;h1;r call_meets F.slot_list_append (%9d_ e) F.entry_list_append (F.args_list_append_2 _ _) (PySem.list_append l its.toArray n u (by rw[List.size_toArray];omega)) ⟨e,?_⟩;r⟨.non,_,I.ug (its':=its++[u]) hH e (by simp) (r.append (%4Pru)) ?_,rfl,q⟩;rw[List.length_append,List.length_singleton];b
%dcS:V→%c→Hp→VK→Prop:=λx vs H Q=>∃l b xs zs,x=%9V∧vs=[.ref b]∧H l=%9Q∧%O=%Vzs∧xs.length+zs.length≤sizeLine∧Q .non (^VH l(xs++zs))
%tEz:MtM X "list.extend" cS:=by
 intro pins s σ H x vs v us Q I rx rv h;o⟨l,b,xs,zs,rfl,rfl,hH,hB,hz,q⟩:=h;m;o⟨u,rfl,ru⟩:=rv.one;c ru;h1;o⟨z2,its2,n2,r2,hl2,e2⟩:=I.fU hB;h hsz:its.toArray.size+its2.toArray.size≤sizeLine:=by rw[List.size_toArray,List.size_toArray];omega
 h hlong:¬(!its.toArray.isEmpty&&Builtin.List.listTooLong (its.toArray.size+its2.toArray.size))=true:=by
  rw[ZH hsz,Bool.and_false];e Bool.false_ne_true
 r call_meets F.slot_list_extend ⟨_,e,rfl⟩ F.entry_list_extend (F.args_list_extend_2 _ _)
  (AutoSeq1.list_extend_list_list_0 l its.toArray n b its2.toArray n2 hlong (by rw[List.size_toArray];omega) %w) ⟨e,e2,?_⟩
 r⟨.non,_,I.ug (its':=its++its2) hH e (by simp) (r.append r2) ?_,rfl,q⟩;i1;b
%dtV:R2:=λx y H Q=>∃l b xs zs,x=%9V∧y=%9X∧H l=%9Q∧%O=%Vzs∧xs.length+zs.length≤sizeLine∧∀p,%0q=none→%1S(^VH p(xs++zs))
%tSO:%9AX .Add tV:=by
 M;o⟨l,b,xs,zs,rfl,rfl,hH,hB,hz,q⟩:=h;m;c ry;h1;o⟨z2,its2,n2,r2,hl2,e2⟩:=I.fU hB;r PySem.P.add_list e e2 ?_ (by rw[List.size_toArray,List.size_toArray];omega);h ea:its.toArray++its2.toArray=(its++its2).toArray:=by simp
 rw[ea];e⟨.ref _,_,I.uh (t':=s.toks) (r.append r2) (by rw[List.length_append];omega),rfl,q _ I.fresh⟩
%dtQ:R2:=λx y H Q=>∃l k xs,x=%9V∧y=.int k∧H l=%9Q∧-(2^63)≤k∧k<2^63∧xs.length*k.toNat≤sizeLine∧
 ∀p,%0q=none→%1S(^VH p(List.replicate k.toNat xs).flatten)
%tlen_rep{α:Type}(xs:#y)(k:Nat):(%7Txs).flatten.length=k*xs.length:=by
 induction k with
 |zero=>simp
 |succ k ih=>rw[List.replicate_succ,List.flatten_cons,List.length_append,ih,Nat.succ_mul,Nat.add_comm]
%tqY:%9AX .Mult tQ:=by
 M;o⟨l,k,xs,rfl,rfl,hH,h1,h2,hz,q⟩:=h;m;o⟨t,rfl⟩:=ry;h1;h hlen:its.toArray.size*k.toNat≤sizeLine:=by rw[List.size_toArray,←hl];e hz
 h hcap:¬its.toArray.size*k.toNat>(2^63-1)/8:=by
  h:(sizeLine:Nat)≤(2^63-1)/8:=by decide
  b
 h hfit:¬(!Builtin.List.listFitsIndex k)=true:=by
  rw[fitsIndex_both h1 h2];e Bool.false_ne_true
 h hlong:¬Builtin.List.listTooLong (its.toArray.size*k.toNat)=true:=by
  rw[ZH hlen];e Bool.false_ne_true
 h hnew:List.foldl (λx1 x2=>x1++x2) #[] (List.replicate (if its.toArray.isEmpty=true then 0 else k.toNat) its.toArray)=(List.replicate k.toNat its).flatten.toArray:=by
  h f0:∀m:Nat,List.foldl (λx1 x2=>x1++x2) #[] (List.replicate m its.toArray)=(List.replicate m its).flatten.toArray:=λm=>by
   h:=foldl_rep its m [];rw[List.nil_append] at this;G
  rw[f0]
  cases its with
  |nil=>simp
  |cons a r'=>rw[if_neg (by simp)]
 r wpAny_binaryOp_repeat_ref (T:="list") (U:="int") (by decide) ⟨_,e,rfl⟩ (λs'=>typeIs_int s' k t) noFill_list_mul F.fills_int_mul F.slot_int_rmul repeat_list F.slot_int_index.lookup
  (call_meets F.slot_int_rmul (typeIs_int s k t) F.entry_int_rmul (F.args_int_rmul_2 _ _) (int___rmul___int_list k t l its.toArray n)
    ⟨e,rfl,⟨_,e,rfl⟩,call_meets F.slot_list_mul (%9d_ e) F.entry_list_mul (F.args_list_mul_2 _ _) (AutoListH.list___mul___list_int_3 l its.toArray n k t hfit hcap hlong) ⟨e,?_⟩⟩)
 rw[hnew];e⟨.ref _,_,I.uh (t':=s.toks) (r.rep k.toNat) (by rw[len_rep,Nat.mul_comm];e hz),rfl,q _ I.fresh⟩
end
section
variable{prog:Program}{w:World}{A:Around}{E:Value→Shared→Prop}{s:Shared}
end
section
variable{X:Cx}
end
end L2
namespace L2
open PySem PySem.Spec PyProof.Rows
%tVals.ints:∀{ns:%1L} {us:%o},%4I&6K→IntsAre us ns
 |[],us,h=>by
  rw[List.map_nil] at h;c h
  e IntsAre.nil
 |n::ns,us,h=>by
  rw[List.map_cons] at h
  cases h with
  |cons r t=>
   o⟨k,rfl⟩:=r;e IntsAre.cons n k (Vals.ints t)
%tVals.strs:∀{xs:%u} {us:%o},%4I(xs.map V.str)→StrsAre us xs
 |[],us,h=>by
  rw[List.map_nil] at h;c h
  e StrsAre.nil
 |x::xs,us,h=>by
  rw[List.map_cons] at h
  cases h with
  |cons r t=>
   o⟨k,rfl⟩:=r;e StrsAre.cons x k (Vals.strs t)
%tVals.bls:∀{bs:&1Y} {us:%o},%4I(bs.map V.bl)→us=bs.map Value.bool
 |[],us,h=>by
  rw[List.map_nil] at h;c h
  rfl
 |b::bs,us,h=>by
  rw[List.map_cons] at h
  cases h with
  |cons r t=>
   c r;rw[Vals.bls t,List.map_cons]
%tVals.vo{a:Addr}{us:%o}(r:%4I[V.ref a]):us=[Value.ref a]:=by
 cases r with
 |cons r t=>
  c t;c r;a
section
variable{prog:Program}{w:World}{A:Around}{E:Value→Shared→Prop}{s:Shared}{l:Addr}{its:List Value}{ns:List Int}{Q:Value→Shared→Prop}
end
section
variable{X:Cx}
end
section
variable{X:Cx}
%tdC{ys:%c}(f:ys.all Hm=true){j:Nat}{z:V}(h:ys[j]? =%9U):Hm z=true:=List.all_eq_true.mp f z (List.mem_of_getElem? h)
end
section
variable{X:Cx}
end
%tjV{prog:Program}{w:World}{A:Around}{E:Value→Shared→Prop}{s:Shared}{l:Addr}{items:%0G}{Q:Value→Shared→Prop}(hl:s.heap.IsList l items)
 (h:∀s₂:Shared,s₂={s with heap:=s.heap.push {cls:=.type "list_iterator",data:=.fields #[.ref l,.int 0 0]}}→
   (s₂.heap.IsListIter s.heap.objs.size l 0∧s₂.heap.IsList l items)→l≠s.heap.objs.size→Q %6R s₂):#mw A(pyIter %9V)Q E s:=by
 h hlt:l<s.heap.objs.size:=by o⟨_,e,_⟩:=hl;e %4D
 e wpAny_pyIter_list hl (h _ rfl ⟨⟨_,^l,rfl,rfl⟩,hl.push _⟩ (Nat.ne_of_lt hlt))
%tY8{prog:Program}{w:World}{A:Around}{bs:&1Y}{its:%o}(e:its=bs.map Value.bool):
 TruthOf prog w A (λi v=>its.toArray[i]? =%W) (λi=>bs.getD i false):=λi v s Q E hv hq=>by
 h hv':its[i]? =%W:=by simpa using hv
 rw[e,List.getElem?_map] at hv';o⟨b,hb,rfl⟩:=Option.map_eq_some_iff.mp hv';h hg:bs.getD i false=b:=by rw[List.getD_eq_getElem?_getD,hb]<;>rfl
 h hq':Q (bs.getD i false) s:=hq;rw[hg] at hq';e wpAny_truthy_bool hq'
%tany_range:∀bs:&1Y,(List.range bs.length).any (λi=>bs.getD i false)=bs.any id
 |[]=>rfl
 |b::bs=>by
  rw[List.length_cons,List.range_succ_eq_map,List.any_cons,List.any_map,List.any_cons,←any_range bs]
  all_goals rfl
%tall_range:∀bs:&1Y,(List.range bs.length).all (λi=>bs.getD i false)=bs.all id
 |[]=>rfl
 |b::bs=>by
  rw[List.length_cons,List.range_succ_eq_map,List.all_cons,List.all_map,List.all_cons,←all_range bs]
  all_goals rfl
section
variable{X:Cx}
%dtW(K:PySem.W.Frag):%c→Hp→VK→Prop:=λvs H Q=>∃(a:Addr) (bs:&1Y),vs=[V.ref a]∧SqL K H a (bs.map V.bl)∧^N(bs.all id)H
%trY(hc:X.calm=true):Hq X (.builtin "all") (tW X.K):=by
 n1;o⟨a,bs,rfl,hs,q⟩:=h;o⟨its,rv,hl,_⟩:=I.list hs;rw[Vals.vo r];h hb:=rv.bls;r call_all_walk (jV hl.isList λs₂ e2 st hne=>?_);subst e2;r⟨_,_,_,_,_,_,_,rfl,Walks.list (A:=X.A.in1) %3f _ a hne its.toArray,st,Y8 hb,λh' tk hk=>?_⟩;r⟨.bl _,H,I.kept λb o eo=>hk b o (λhmem=>?_) (%5ceo),?_,q⟩
 ·rcases List.mem_cons.mp hmem with e1|hmem
  ·e %4v(e1▸Heap.lt_size eo)_
  ·c hmem
 ·show Value.bool _=Value.bool _;rw[←all_range,hb,List.size_toArray,List.length_map]
end
section
variable{X:Cx}{pins:List (Addr×Obj)}{σ:St}{H:Hp}{s:Shared}
end
section
variable{X:Cx}
end
end L2
namespace L2
open PySem PySem.Spec PyProof.Rows
abbrev lF(h:Heap)(c:Addr)(v:&f):Prop:=h.IsCell c v
%dvn(scope sc:Scope):Scope:=
 {scope with names:=scope.names.map λ(n,k)=>if(k==.free&&sc.kind==.function&&sc.names.lookup n==%0H) then(n,.cell) else(n,k)}
%dDk(cells:#O):%7P→#O→List (Str×Addr)
 |[],acc=>acc
 |(n,k)::r,acc=>if k==.free then Dk cells r ((n,(cells.lookup n).getD 0)::acc) else Dk cells r acc
%tSf(env:Env)(f:Str×NameKind→#O→Sem (ForInStep #O))
 (hf:∀n k c,f (n,k) c=if k==.free then(do let a←cellOf env n;pure (.yield ((n,a)::c))) else pure (.yield c)):
 ∀(names:%7P) (acc:#O),(∀y∈names,y.2=.free→∃c,env.cells.lookup y.1=&q)→forIn names acc f=pure (Dk env.cells names acc)
 |[],acc,_=>by rw[List.forIn_nil];rfl
 |(n,k)::r,acc,h=>by
  rw[List.forIn_cons,hf];h ih:=λacc=>Sf env f hf r acc λy hy=>h y (#ahy);u Dk;by_cases hk:(k==NameKind.free)=true
  ·rw[if_pos hk,if_pos hk];o⟨c,hc⟩:=h (n,k) List.mem_cons_self (by simpa using hk);h e:cellOf env n=pure c:=by u cellOf;rw[hc]
   t;h e2:(env.cells.lookup n).getD 0=c:=by rw[hc];rfl
   rw[e2];e ih _
  ·rw[if_neg hk,if_neg hk];e ih _
%tck{scope:Scope}{env:Env}(h:∀y∈scope.names,y.2=.free→∃c,env.cells.lookup y.1=&q):closureFor scope env=pure (Dk env.cells scope.names []):=by
 s[closureFor];rw[Sf env _ (λn k c=>rfl) scope.names [] h];a
%tmem_lookup{α:Type}:∀{l:List (Str×α)} {n:Str} {c:α},(n,c)∈l→∃c',l.lookup n=some c'
 |(k,v)::r,n,c,h=>by
  rw[List.lookup_cons]
  cases hb:n==k with
  |true=>e⟨_,rfl⟩
  |false=>
   g7
   ·d;simp at hb
   ·e mem_lookup h
%tKm{cells:#O}:∀{names:%7P} {acc:#O} {n:Str} {c:Addr},(n,c)∈Dk cells names acc→(n,c)∈acc∨((n,.free)∈names∧c=(cells.lookup n).getD 0)
 |[],_,_,_,h=>%9N
 |(m,k)::r,acc,n,c,h=>by
  u Dk at h;L
  ·rename_i hk;h hk:k=.free:=by simpa using hk
   rcases Km h with h|⟨h1,h2⟩
   ·g7
    ·d;e .inr (%5V(hk▸List.mem_cons_self))
    ·e %9N
   ·e %4N(#ah1)h2
  ·rcases Km h with h|⟨h1,h2⟩
   ·e %9N
   ·e %4N(#ah1)h2
%tOd{cells:#O}:∀{names:%7P} {acc:#O} {p:Str×Addr},p∈acc→p∈Dk cells names acc
 |[],_,_,h=>h
 |(m,k)::r,acc,p,h=>by
  u Dk;B
  ·e Od (#ah)
  ·e Od h
%tOc{cells:#O}:∀{names:%7P} {acc:#O} {n:Str},(n,.free)∈names→(n,(cells.lookup n).getD 0)∈Dk cells names acc
 |(m,k)::r,acc,n,h=>by
  u Dk;g7
  ·d;e Od List.mem_cons_self
  ·B
   ·e Oc h
   ·e Oc h
%tLG:∀{names:%7P} {h:Heap} {acc:#O} {x:Str} {c:Addr},(x,c)∈cellsFrom h.objs.size names acc→
 (x,c)∈acc∨((x,.cell)∈names∧h.objs.size≤c∧lF (pushCells h names) c none)
 |[],_,_,_,_,h=>%9N
 |(n,k)::r,h,acc,x,c,hm=>by
  u cellsFrom at hm;u pushCells;split at hm
  ·rename_i hk;rw[if_pos hk];h hk:k=.cell:=by simpa using hk
   rw[←Heap.size_push h {cls:=.type "cell",data:=.cell none}] at hm;rcases LG hm with hm|⟨h1,h2,h3⟩
   ·rcases List.mem_cons.mp hm with e|hm
    ·d;e .inr ⟨hk▸List.mem_cons_self,%L,_,pushCells_keeps r _ _ _ ^l,rfl⟩
    ·e .inl hm
   ·rw[Heap.size_push] at h2;e .inr ⟨#ah1,Nat.le_of_succ_le h2,h3⟩
  ·rename_i hk;rw[if_neg hk];rcases LG hm with hm|⟨h1,h2,h3⟩
   ·e .inl hm
   ·e .inr ⟨#ah1,h2,h3⟩
%tOM:∀{names:%7P} {n:Nat} {acc:#O} {p:Str×Addr},p∈acc→p∈cellsFrom n names acc
 |[],_,_,_,h=>h
 |(m,k)::r,n,acc,p,h=>by
  u cellsFrom;B
  ·e OM (#ah)
  ·e OM h
%tTd:∀{names:%7P} {n:Nat} {acc:#O} {x:Str},(x,.cell)∈names→∃c,(x,c)∈cellsFrom n names acc
 |(m,k)::r,n,acc,x,h=>by
  u cellsFrom;g7
  ·d;e⟨n,OM List.mem_cons_self⟩
  ·B
   ·e Td h
   ·e Td h
%tTc:∀{names:%7P} {h:Heap} {acc:#O} {x y:Str} {c:Addr},(∀p∈acc,p.2<h.objs.size)→(∀x y c,(x,c)∈acc→(y,c)∈acc→x=y)→
 (x,c)∈cellsFrom h.objs.size names acc→(y,c)∈cellsFrom h.objs.size names acc→x=y
 |[],_,_,_,_,_,_,hi,h1,h2=>hi _ _ _ h1 h2
 |(n,k)::r,h,acc,x,y,c,hl,hi,h1,h2=>by
  u cellsFrom at h1 h2;split at h1
  ·rename_i hk;rw[if_pos hk] at h2;rw[←Heap.size_push h {cls:=.type "cell",data:=.cell none}] at h1 h2;r Tc (h:=h.push _) (λp hp=>?_) (λx y c a b=>?_) h1 h2
   ·rw[Heap.size_push];rcases List.mem_cons.mp hp with rfl|hp
    ·e %0s
    ·e Nat.lt_succ_of_lt (hl p hp)
   ·rcases List.mem_cons.mp a with e|a<;>rcases List.mem_cons.mp b with e'|b
    ·d;c e';a
    ·d;e %4v(hl _ b)_
    ·c e';e %4v(hl _ a)_
    ·e hi _ _ _ a b
  ·rename_i hk;rw[if_neg hk] at h2;e Tc hl hi h1 h2
%tZL{M:Model}{A:Around}{E:Value→Shared→Prop}{s:Shared}{scope:Scope}{globals:Addr}{closure:#O}{qual:Str}{func:%0v}{code:Value}{around:Env}{builtins:Addr}{Q:Env→Shared→Prop}
 (h:Q (newEnv scope s.heap.objs.size globals (&1Nclosure) qual func code (some around) builtins)
   {s with heap:=&2W(s.heap.push {cls:=%1z,data:=%3Q})}):
 #AM A(newFunctionEnv scope globals closure [] qual func code (some around) builtins)Q E:=by
 s[newFunctionEnv,Option.isSome_some,if_true];r wpAny_bind (wpAny_alloc ?_);r wpAny_bind (wpAny_layCells _ (λn k c=>rfl) scope.names closure _ _ ?_);rw[show({s with heap:=s.heap.push {cls:=%1z,data:=%3Q}}:Shared).heap.objs.size=s.heap.objs.size+1 from Heap.size_push ..];rw[List.forIn_nil];e %8X&0t
%tNL{sc:Scope}:∀{names:%7P} {x:Str} {k:NameKind},
 (names.map λ(n,k)=>if(k==NameKind.free&&sc.kind==.function&&sc.names.lookup n==%0H) then(n,NameKind.cell) else(n,k)).lookup x=%6t→
 ∃k',names.lookup x=some k'∧(k=k'∨(k'=.free∧k=.cell))
 |[],_,_,h=>by simp at h
 |(n,k₀)::r,x,k,h=>by
  h ih:=@NL sc r x k;h h':List.lookup x ((if(k₀==NameKind.free&&sc.kind==.function&&sc.names.lookup n==%0H)=true then(n,NameKind.cell) else(n,k₀))::(r.map _))=%6t:=h
  cases hx:x==n with
  |true=>
   q2
   ·rw[if_pos hc] at h';h2;c h';s[Bool.and_eq_true,beq_iff_eq] at hc;e⟨k₀,rfl,.inr (%5Vhc.1.1)⟩
   ·rw[if_neg hc] at h';h2;c h'
    e⟨_,rfl,%U⟩
  |false=>
   q2
   ·rw[if_pos hc] at h';h2;e ih h'
   ·rw[if_neg hc] at h';h2;e ih h'
structure aK(N:%u)(sc scope:Scope)(own:&3h):Prop where
 kind:scope.kind=.function
 uniq:∀y∈scope.names,scope.names.lookup y.1=some y.2
 ix:∀p∈own,N[p.2]? =some p.1
 free:∀y∈scope.names,y.2=.free→sc.names.lookup y.1=%0H∨sc.names.lookup y.1=%6c
 own:∀y∈scope.names,y.2=.local∨y.2=.cell→y.1∈own.map (·.1)∨y.1∉N
%dwipe(σ:St):%r→St
 |[]=>σ
 |v::vs=>(wipe σ vs).set v none
%tM5(σ:St):∀vs:%r,(wipe σ vs).length=σ.length
 |[]=>rfl
 |v::vs=>by u wipe;rw[List.length_set,M5 σ vs]
%tSo{σ:St}{i:Nat}{x:V}:∀{vs:%r},(wipe σ vs)[i]? =&5q→σ[i]? =&5q∧i∉vs
 |[],h=>⟨h,by simp⟩
 |v::vs,h=>by
  u wipe at h;by_cases hi:v=i
  ·subst hi;by_cases hv:v<(wipe σ vs).length
   ·rw[List.getElem?_set_self hv] at h;c h
   ·rw[List.getElem?_eq_none (by simpa using hv)] at h;c h
  ·rw[List.getElem?_set_ne hi] at h;o⟨h1,h2⟩:=So h;e⟨h1,by s[List.mem_cons,not_or];e⟨λe=>hi e.symm,h2⟩⟩
abbrev Cx.blk(X:Cx)(s:Shared)(H:Hp)(scope:Scope)(cenv:Env)(fp:&H):Cx:={X with s_0:=s,H_0:=H,env:=cenv,outer:=X.stack,ex:=fp,fn:=λx=>scope.names.lookup x==%0H,pn:=[],xe:=λ_ _=>False}
section
variable{X:Cx}{pins:List (Addr×Obj)}{σ:St}{H:Hp}{s:Shared}
%taE{scope:Scope}{own:&3h}{fp:&H}(I:%f)(ok:aK X.N X.env.scope scope own)(hN:X.N.Nodup)(hfp:∀b∈fp,Ut X pins H b∧b<s.heap.objs.size):
 Inv (%1ls H(%6E(&1N&3y)s.heap.objs.size)fp) [] (&6xσ) H {s with heap:=&2W(s.heap.push {cls:=%1z,data:=%3Q})}:=by
 h hfree:∀y∈scope.names,y.2=.free→∃c,X.env.cells.lookup y.1=&q:=λy hy e=>by
  rcases ok.free y hy e with k|k
  ·e I.ok.has _ (.inl k)
  ·e I.ok.has _ (.inr k)
 generalize hcenv:%6E(&1N&3y)s.heap.objs.size=cenv;h kp:∀b o,%0t=%b→(&2W(s.heap.push {cls:=%1z,data:=%3Q})).get? b=%b:=λb o e=>pushCells_keeps _ _ _ _ %5C;h hL:cenv.locals=s.heap.objs.size:=by rw[←hcenv];rfl
 h hcl:cenv.cells=&1N&3y:=by rw[←hcenv];rfl
 h hsc:cenv.scope=vn scope X.env.scope:=by rw[←hcenv];rfl
 rw[←Heap.size_push s.heap {cls:=%1z,data:=%3Q}] at hcl
 h cm:∀{y c},(y,c)∈&3y→X.env.cells.lookup y=&q∧c<s.heap.objs.size:=λ{y c} hm=>by
  rcases Km hm with hm|⟨h1,rfl⟩
  ·c hm
  ·o⟨c,hc⟩:=hfree _ h1 rfl;rw[hc];o⟨w,z⟩:=I.cell _ _ hc;e⟨rfl,z.lt⟩
 h mem:∀{y c},%8W=&q→(X.env.cells.lookup y=&q∧c<s.heap.objs.size)∨(s.heap.objs.size+1≤c∧lF (&2W(s.heap.push {cls:=%1z,data:=%3Q})) c none):=λ{y c} e=>by
  rw[hcl] at e;rcases LG &5X with hm|⟨_,h2,h3⟩
  ·e .inl (cm hm)
  ·rw[Heap.size_push] at h2;e %4Nh2 h3
 h look:∀{y},&1r=%6c→∃c,%8W=&q∧X.env.cells.lookup y=&q:=λ{y} hl=>by
  h hy:(y,NameKind.free)∈scope.names:=PySem.mem_of_lookup hl;o⟨c',e'⟩:=mem_lookup (OM (names:=scope.names) (n:=(s.heap.push {cls:=%1z,data:=%3Q}).objs.size) (Oc (cells:=X.env.cells) (acc:=[]) hy));rw[←hcl] at e';r⟨c',e',?_⟩;rw[hcl] at e';rcases LG (PySem.mem_of_lookup e') with hm|⟨h1,_,_⟩
  ·e(cm hm).1
  ·h:=ok.uniq _ h1;rw[hl] at this;c this
 h okB:(%1ls H cenv fp).Ok:=by
  r⟨I.ok.mod,by show cenv.scope.kind=_;rw[hsc];e ok.kind,by show cenv.globals=_;rw[←hcenv];e I.ok.glob,by show cenv.builtins=_;rw[←hcenv];e I.ok.blt,by show s.heap.objs.size≤cenv.locals;rw[hL];e %L,
   λy z c e1 e2=>?_,λy hy=>?_,λy c z e=>?_,I.ok.hd,I.ok.frames,%U,λb hb=>⟨?_,λy c e z=>?_⟩,I.bs,&4zI.sz,λb o e hb=>?_,λb hb z=>?_,I.stack,I.XX⟩
  ·h e1:%8W=&q:=e1;h e2:cenv.cells.lookup z=&q:=e2;rw[hcl] at e1 e2;r Tc (λp hp=>?_) (λy z c a b=>I.ok.inj y z c (cm a).1 (cm b).1) (PySem.mem_of_lookup e1) (PySem.mem_of_lookup e2);rw[Heap.size_push];e Nat.lt_succ_of_lt (cm (y:=p.1) (c:=p.2) hp).2
  ·show∃c,%8W=some c
   h key:∀k,cenv.kindOf y=%6t→(k=.cell∨k=.free)→∃c,%8W=&q:=λk hk hk'=>by
    u Env.kindOf at hk;rw[hsc] at hk;o⟨k',e,r⟩:=NL hk
    h:k'=.cell∨k'=.free:=by
     rcases r with rfl|⟨rfl,_⟩
     ·e hk'
     ·e %1j
    rcases this with rfl|rfl
    ·o⟨c,hm⟩:=Td (n:=(s.heap.push {cls:=%1z,data:=%3Q}).objs.size) (acc:=&3y) &5X;o⟨c',e'⟩:=mem_lookup hm;e⟨c',by rw[hcl];e e'⟩
    ·o⟨c,h1,_⟩:=look e;e⟨c,h1⟩
   rcases hy with hy|hy
   ·e key _ hy %U
   ·e key _ hy %1j
  ·h z:(scope.names.lookup y==some NameKind.cell)=true:=z;h z:&1r=%0H:=by simpa using z
   h e:%8W=&q:=e;rw[hcl] at e;rcases LG &5X with hm|⟨_,h2,_⟩
   ·rcases Km hm with hm|⟨h1,_⟩
    ·c hm
    ·h q:=ok.uniq _ h1;rw[z] at q;c q
   ·rw[Heap.size_push] at h2;e Nat.le_of_succ_le h2
  ·show b≠cenv.locals;rw[hL];e Nat.ne_of_lt (hfp b hb).2
  ·h e:%8W=&q:=e;rcases mem e with⟨h1,_⟩|⟨h1,_⟩
   ·e(hfp b hb).1.2.2.2.2.1 y c h1 z
   ·h h2:s.heap.objs.size+1≤b:=by rw[←z];e h1
    e %4v(Nat.lt_of_lt_of_le (hfp b hb).2 (Nat.le_of_succ_le h2))_
  ·rcases(hfp b hb).1.2.2.2.1 with z|z
   ·e I.ok.bK b o e z
   ·e %4v(&5Fe(&4zz))_
  ·rcases List.mem_cons.mp (I.aX b z) with z|z
   ·e(hfp b hb).1.2.1 z
   ·e(hfp b hb).1.2.2.1 z
 r⟨okB,rfl,I.bare,Un.kept kp,⟨λ_=>none,?_,λi y av e1 e2 e3=>?_⟩,λy c e=>?_,?_,λy c e=>?_,λp hp=>?_,I.hok.kept kp,by rw[M5];e I.len⟩
 ·show Heap.Ns _ cenv.locals _;rw[hL];e Heap.Ns.keeps (Heap.Ns.new ..) λb o e=>pushCells_keeps _ _ _ _ e
 ·o⟨e2,hne⟩:=So e2
  h hfr:&1r=%6c∧(cenv.kindOf y=%0H∨cenv.kindOf y=%6c):=by
   h key:∀k,cenv.scope.names.lookup y=%6t→k=.local∨k=.cell∨k=.free→&1r=%6c∧(cenv.kindOf y=%0H∨cenv.kindOf y=%6c):=λk hk hk'=>by
    h hk0:=hk;rw[hsc] at hk;o⟨k',e,r⟩:=NL hk
    h no:¬(k'=.local∨k'=.cell):=λhh=>by
     rcases ok.own _ &5X hh with e'|e'
     ·o⟨p,hp,hpy⟩:=List.mem_map.mp e';h e3:=ok.ix p hp;h:p.1=y:=hpy;rw[this] at e3;e hne (List.mem_map.mpr ⟨p,hp,Vh hN e3 e1⟩)
     ·e e' &5T
    rcases r with rfl|⟨rfl,rfl⟩
    ·rcases hk' with rfl|rfl|rfl
     ·e absurd %U no
     ·e absurd %1j no
     ·e⟨e,.inr hk0⟩
    ·e⟨e,.inl hk0⟩
   h e3:Vis cenv.scope y:=e3;rcases e3 with e3|e3|e3
   ·e key _ e3 %U
   ·e key _ e3 &3w
   ·e key _ e3 (^brfl)
  i2;h hvis:&5ky:=(ok.free _ (PySem.mem_of_lookup hfr.1) rfl).elim (λk=>%7Ok) (λk=>^bk);o⟨w,r,q⟩:=hl i y av e1 e2 hvis;r⟨w,r,%4Nhfr.2 ?_⟩;o⟨c,h1,h2⟩:=look hfr.1;rcases q with⟨k,_⟩|⟨_,c',e',z⟩
  ·h k:X.env.scope.names.lookup y=%0U:=k;rcases ok.free _ (PySem.mem_of_lookup hfr.1) rfl with k'|k'<;>rw[show X.env.scope.names.lookup y=_ from k'] at k<;>c k
  ·rw[h2] at e';c e';e⟨c,h1,z.keeps kp⟩
 ·h e:%8W=&q:=e;rcases mem e with⟨h1,_⟩|⟨_,z⟩
  ·o⟨w,z⟩:=I.cell y c h1;e⟨w,z.keeps kp⟩
  ·e⟨_,z⟩
 ·show H cenv.locals=none;rw[hL];e %5f
 ·h e:%8W=&q:=e;rcases mem e with⟨h1,_⟩|⟨h1,_⟩
  ·e I.Ia y c h1
  ·e I.hok.fresh (Nat.le_of_succ_le h1)
 ·e %0b(show p∈([]:%G)++[] from hp)
%tsv{E:Value→Shared→Prop}{D:Addr}{xs:%c}{y:V}{v:Value}{Q:Value→Shared→Prop}(I:%f)(hD:H D=%9Q)(hz:xs.length<sizeLine)(r:RelV y v)
 (h:∀s',&O(^VH D(xs++[y]))s'→Q .none s'):%4x(call (.builtin "list.append") [&1f,v])Q E s:=by
 o⟨hz',its,n,ri,e⟩:=I.hok D _ hD;h hl:=ri.length;r append_at (hsz:=by rw[List.size_toArray];omega) e λh' sb ho'=>?_;r h {s with heap:=h'} (I.write (t':=s.toks) (by rw[hD];trivial) %U (λb u hb q=>(sb.2 b hb).trans q) ⟨_,ho'⟩ ⟨by rw[List.length_append];e hz,its++[v],n+1,ri.append (%4Pr),?_⟩);rw[ho'];i
%dPTs(X:Cx)(ifs:%0i)(t:TT):Prop:=
 ∀(pins:%G) (s:Shared) (σ:St) (H:Hp) (Q:Bool→Hp→Prop),%f→t σ H Q→
  #i(forIn ifs true λc r=>if r=true then do let ok←isTrue c X.env (#Bc);&2Uok else &2Ur)(TP X pins σ Q)
%duX:TT:=λ_ H Q=>Q true H
%tmD:PTs X [] uX:=λ_ _ _ H _ I h=>wpAny_tests_nil ⟨H,I,h⟩
end
%teI{α:Type}{t:Sem α}{Q Q':α→Shared→Prop}{M:Model}{A:Around}{E:Value→Shared→Prop}{s:Shared}(h:#AM A t Q(λ_ _=>False))(hQ:∀a s,Q a s→Q' a s):#AM A t Q' E:=wpAny_mono h hQ λ_ _ z=>%9f
%tYL{prog:Program}{w:World}{A:Around}{R:Result→Shared→Prop}{s:Shared}{elt target iter:Expr}{ifs:%0i}{scope:Scope}{pos:Pos}{it acc:Value}{env:Env}(I:Nat→Shared→Prop)
 (turn:∀n s,I n s→wpAny %3v A (pyNext it) (λr s₁=>match r with
   |none=>R (.ok .next) s₁
   |some v=>wpAny %3v A (letOwnedTupleGo target it v) (λ_ s₁'=>wpAny %3v A (assign target env v) (λ_ s₂=>
     wpAny %3v A (forIn ifs true λc r=>if r=true then do let ok←isTrue c env (eval c env);&2Uok else &2Ur) (λok s₃=>
      if ok=true then wpAny %3v A (eval elt env) (λx s₄=>
       #mw A(call (.builtin "list.append") [acc,x])(λ_ s₅=>∃m,m<n∧I m s₅)(notedBy %3v A env λe s'=>R &4d s')s₄) (notedBy %3v A env λe s'=>R &4d s') s₃
      else∃m,m<n∧I m s₃) (notedBy %3v A env λe s'=>R &4d s') s₂) (notedBy %3v A env λe s'=>R &4d s') s₁') (notedBy %3v A env λe s'=>R &4d s') s₁) (notedBy %3v A env λe s'=>R &4d s') s)
 (n:Nat) (h:I n s):
 codeAny %3v A (.compLoop (&2pelt [⟨target,iter,ifs,0⟩]pos) 0 it acc env) R s:=by
 r codeAny_loop rfl I (λn s hI=>?_) n h;show #A_ A((compTurn (&2pelt [⟨target,iter,ifs,0⟩]pos) 0 it acc env).onRaise (λx=>do noteFrame x env;theTreesLotGoes x))_ _;r wpAny_noted ?_;rw[compTurn_list];r &0k(wpAny_bind (wpAny_mono (turn n s hI) (λr s₁ h₁=>?_) λ_ _ h'=>h'))
 cases r with
 |none=>e wpAny_pure h₁
 |some v=>
  r wpAny_bind (wpAny_mono h₁ (λ_ s₁' h₁'=>?_) λ_ _ h'=>h');r wpAny_bind (wpAny_mono h₁' (λ_ s₂ h₂=>wpAny_bind (wpAny_mono h₂ (λok s₃ h₃=>?_) λ_ _ h'=>h')) λ_ _ h'=>h')
  cases ok with
  |false=>e wpAny_pure (%4ih₃)
  |true=>
   e &1t(wpAny_mono h₃ (λx s₄ h₄=>wpAny_bind (wpAny_mono h₄ (λ_ s₅ h₅=>wpAny_pure (wpAny_pure (%4ih₅))) λ_ _ h'=>h')) λ_ _ h'=>h')
section
variable{X:Cx}
%dtLc(wi:TI)(g:TG)(tt:TT)(te:TE)(vs:%r):TE:=λσ H Q=>wi σ H λJ H1=>∀D,H1 D=none→∃W:Nat→Nat→Hp→Prop,(∃m,W 0 m (upd H1 D %M))∧∀i m H,W i m H→
 (J.stop i H∧Q &1f H)∨(J.go i H∧∃Nx:Hp→Prop,(∀H',Nx H'→∃m',m'<m∧W (i+1) m' H')∧∀x H',J.yld i H x H'→g x (wipe σ vs) H' λσ2 H2=>wipe σ2 vs=wipe σ vs∧tt σ2 H2 λb H3=>
   if b=true then te σ2 H3 λy H4=>∃acc,H4 D=%Vacc∧acc.length<sizeLine∧Nx (^VH4 D(acc++[y])) else Nx H3)
%tnE{pins:%G}{s:Shared}{σ:St}{H:Hp}{Q:VK}{elt tg iter:Expr}{ifs:%0i}{scope:Scope}{own:&3h}{pos pos':Pos}{wi:TI}{g:TG}{tt:TT}{te:TE}{use:Option (Value→Sem Unit)}{Qf:Value→Shared→Prop}
 (hc:X.calm=true) (hN:X.N.Nodup) (I:%f) (hi:PI X tg iter wi) (ok:aK X.N X.env.scope scope own)
 (hg:∀(s:Shared) (H:Hp) (C:Addr) (cl:#O) (fp:&H),PG (%1ls H(%6Ecl C)fp) tg g) (ht:∀(s:Shared) (H:Hp) (C:Addr) (cl:#O) (fp:&H),PTs (%1ls H(%6Ecl C)fp) ifs tt)
 (he:∀(s:Shared) (H:Hp) (C:Addr) (cl:#O) (fp:&H),PE (%1ls H(%6Ecl C)fp) elt te) (hs:∀x,&1witer x=%1M)
 (h:tLc wi g tt te (own.map (·.2)) σ H Q)
 (hRR:∀D C s' m H',&OH' s'→Q &1f H'→s'.heap.Ns C m→Ut X pins H' C→compPost %6i X.A X.xe use Qf &1f C (.ok .next) s'):
 #i(comprehension (&2pelt [⟨tg,iter,ifs,0⟩]pos) scope X.env pos' (newList []) false (#Biter) use)Qf:=by
 h hfree:∀y∈scope.names,y.2=.free→∃c,X.env.cells.lookup y.1=&q:=λy hy e=>by
  rcases ok.free y hy e with k|k
  ·e I.ok.has _ (.inl k)
  ·e I.ok.has _ (.inr k)
 r wpAny_comprehension_free (use:=use) rfl hs (ck hfree) ok.kind (λy hy e=>by rw[ok.uniq y hy,e])
  (thn (hi pins s σ H _ I h) λxv s1 hx=>thn hx λitv s2 h2=>?_)
 o⟨it,fp,tn,J,H2,e,I2,T,st2,f2,q⟩:=h2;p;r wpAny_newObj_type (ZL ?_) (by show 0≤sizeLine;decide);generalize hD:s2.heap.objs.size=D;h hDn:H2 D=none:=I2.hok.fresh (Nat.le_of_eq hD);o⟨W,⟨m0,w0⟩,turn⟩:=q D hDn;generalize hs3:({s2 with heap:=s2.heap.push {cls:=%0c,data:=.seq ([]:%o).toArray}}:Shared)=s3
 h I3:&O(upd H2 D %M)s3:=by
  rw[←hs3];r I2.laid (t':=s2.toks) (λb o e=>%5C) (Nat.le_of_eq hD) ⟨#q,[],0,.nil,?_⟩;rw[←hD];e ^l
 h h3:s3.heap=s2.heap.push {cls:=%0c,data:=.seq ([]:%o).toArray}:=by rw[←hs3]
 h sz:∀b∈fp,b<s2.heap.objs.size:=λb hb=>by
  o⟨o,e,_⟩:=T.obj _ _ st2 b hb;e %4D
 h f3:∀b∈fp,Ut X pins (upd H2 D %M) b∧b<s3.heap.objs.size:=λb hb=>by
  h hlt:=sz b hb;r⟨⟨?_,(f2 b hb).2⟩,by rw[h3,Heap.size_push];e Nat.lt_succ_of_lt hlt⟩;rw[Ay (by rw[←hD];e Nat.ne_of_lt hlt)];e(f2 b hb).1
 h st3:tn 0 s3.heap:=T.keep _ _ _ st2 λb _ o e=>by rw[h3];e %5C
 h I4:=aE I3 ok hN f3;h pg:=hg s3 (upd H2 D %M) s3.heap.objs.size &5r fp;h pt:=ht s3 (upd H2 D %M) s3.heap.objs.size &5r fp;h pe:=he s3 (upd H2 D %M) s3.heap.objs.size &5r fp;show codeAny _ _ (.compStart (&2pelt [⟨tg,iter,ifs,0⟩]pos) 0 %4M &1f (%6E&5r s3.heap.objs.size)) (compPost %6i X.A X.xe use Qf &1f s3.heap.objs.size) {s3 with heap:=&2W(s3.heap.push {cls:=%1z,data:=%3Q})};h nfp:∀b∈fp,(upd H2 D %M) b=none:=λb hb=>(f3 b hb).1.1;generalize hce:%6E&5r s3.heap.objs.size=ce at I4 pg pt pe ⊢;h cL:ce.locals=s3.heap.objs.size:=by subst hce;rfl
 generalize hH3:upd H2 D %M=H3 at I3 I4 pg pt pe w0 nfp f3;generalize hs4:({s3 with heap:=&2W(s3.heap.push {cls:=%1z,data:=%3Q})}:Shared)=s4 at I4 ⊢;h st4:tn 0 s4.heap:=T.keep _ _ _ st3 λb _ o e=>by rw[←hs4];e pushCells_keeps _ _ _ _ %5C
 h stat:∀{σ':St} {H':Hp} {s':Shared},Inv (%1ls3 H3 ce fp) [] σ' H' s'→(∀b∈fp,%0C=none)→∀b∈fp,Ut (%1ls3 H3 ce fp) [] H' b:=λ{σ' H' s'} I' hn b hb=>
  ⟨hn b hb,(I'.ok.exf b hb).1,I'.ok.b5 b hb,.inl hb,λx c e=>(I'.ok.exf b hb).2 x c e,λp hp=>%0b(show p∈([]:%G)++[] from hp)⟩
 h loop:codeAny %6i X.A (.compLoop (&2pelt [⟨tg,iter,ifs,0⟩]pos) 0 %4M &1f ce) (compPost %6i X.A X.xe use Qf &1f s3.heap.objs.size) s4:=by
  r YL (λn s'=>∃i H',Inv (%1ls3 H3 ce fp) [] (&6xσ) H' s'∧tn i s'.heap∧(∀b∈fp,%0C=none)∧W i n H') ?_ m0 ⟨0,H3,I4,st4,nfp,w0⟩;rintro n s5 ⟨i,H5,I5,st5,n5,w5⟩;rcases turn i n H5 w5 with⟨stop,qq⟩|⟨go,Nx,hNx,step⟩
  ·h td:=T.done (%1ls3 H3 ce fp) rfl rfl rfl hc i [] s5 _ H5 (λ_ _=>False) I5 (stat I5 n5) st5 stop;r eI td λr s6 ⟨hr,I6⟩=>?_;subst hr;h I7:&OH5 s6:=I3.kT (ch:=fp) I6.os I6.base I6.hok I6.bare λb hb=>⟨(f3 b hb).1.2.2.2.1,(f3 b hb).1.2.1,(f3 b hb).1.2.2.2.2.1,(f3 b hb).1.2.2.2.2.2⟩
   h nC:H5 s3.heap.objs.size=none:=by
    h z:H5 ce.locals=none:=I6.free;rw[cL] at z;e z
   o⟨m,hn,_⟩:=I6.loc;h hn:s6.heap.Ns ce.locals m:=hn;rw[cL] at hn;e hRR D s3.heap.objs.size s6 m H5 I7 qq hn (I3.bZ %L nC)
  ·h ti:=T.item (%1ls3 H3 ce fp) rfl rfl rfl hc i [] s5 _ H5 (λ_ _=>False) I5 (stat I5 n5) st5 go;r eI ti λr s6 ⟨u,hr,h6⟩=>?_;subst hr;r eI h6 λ_ s7 ⟨x,H7,I7,r7,y7,st7,n7⟩=>?_;h I7':=I7.pinned (stat I7 n7) (T.obj _ _ st7);r eI (pg _ s7 _ H7 x u _ I7' r7 (step x H7 y7)) λ_ s8 ⟨σ8,H8,I8,hw8,q8⟩=>?_;r eI (pt _ s8 σ8 H8 _ I8 q8) λb s9 ⟨H9,I9,q9⟩=>?_
   h fin:∀{s':Shared} {H':Hp},Inv (%1ls3 H3 ce fp) ([]++U3 fp s7.heap) σ8 H' s'→Nx H'→∃m,m<n∧∃i H',Inv (%1ls3 H3 ce fp) [] (&6xσ) H' s'∧tn i s'.heap∧(∀b∈fp,%0C=none)∧W i m H':=λ{s' H'} I' nx=>by
    o⟨m',hm,w'⟩:=hNx H' nx
    h pin':∀b∈fp,∀o,s7.heap.get? b=%b→s'.heap.get? b=%b∧%0C=none:=λb hb o e=>
     let z:=I'.pin (b,o) (%8V(%8V(Qa hb e)))
     ⟨z.1,z.2.1⟩
    h hl:(&6xσ).length=σ8.length:=by rw[←hw8,M5]
    r⟨m',hm,i+1,H',(I'.Qo (pins:=[])).weak hl (λj v e=>?_),T.keep _ _ _ st7 λb hb o e=>(pin' b hb o e).1,λb hb=>?_,w'⟩
    ·rw[←hw8] at e;e(So e).1
    ·o⟨o,e,_⟩:=T.obj _ _ st7 b hb;e(pin' b hb o e).2
   cases b with
   |false=>
    s[Bool.false_eq_true,if_false] at q9 ⊢
    e fin I9 q9
   |true=>
    s[if_true] at q9 ⊢;r eI (pe _ s9 σ8 H9 _ I9 q9) λz s10 ⟨yv,H10,I10,r10,acc,hD10,hz10,nx⟩=>?_;e sv (X:=%1ls3 H3 ce fp) I10 hD10 hz10 r10 λs11 I11=>fin I11 nx
 e codeAny_compStart_list loop (T.self X.A 0 _ _ _ st4 loop)
%tt8{elt tg iter:Expr}{ifs:%0i}{scope:Scope}{own:&3h}{pos:Pos}{wi:TI}{g:TG}{tt:TT}{te:TE}(hc:X.calm=true)(hN:X.N.Nodup)(hi:PI X tg iter wi)(ok:aK X.N X.env.scope scope own)
 (hg:∀(s:Shared) (H:Hp) (C:Addr) (cl:#O) (fp:&H),PG (%1ls H(%6Ecl C)fp) tg g) (ht:∀(s:Shared) (H:Hp) (C:Addr) (cl:#O) (fp:&H),PTs (%1ls H(%6Ecl C)fp) ifs tt)
 (he:∀(s:Shared) (H:Hp) (C:Addr) (cl:#O) (fp:&H),PE (%1ls H(%6Ecl C)fp) elt te) (hs:∀x,&1witer x=%1M:=by intro _;rfl):
 %k(&2pelt [⟨tg,iter,ifs,0⟩]pos)(tLc wi g tt te (own.map (·.2))):=by
 j;rw[eval_ListComp];r nE hc hN I hi ok hg ht he hs h λD C s' m H' I' q hn f=>⟨m,hn,λh'' sb=>?_⟩;o⟨f0,f1,f2,f3,f4,f5⟩:=f;e⟨.ref D,H',I'.turned (t':=s'.toks) (λb o hb e=>(sb.2 b hb).trans e) f0 f1 f3 f4 f5,rfl,q⟩
end
%duL(N:%u)(sc scope:Scope)(own:&3h):Bool:=
 (match scope.kind with|.function=>true|_=>false)&&(scope.names.all λy=>decide (scope.names.lookup y.1=some y.2))&&(own.all λp=>decide (N[p.2]? =some p.1))&&
   (scope.names.all λy=>match y.2 with
     |.free=>(match sc.names.lookup y.1 with|some .cell=>true|some .free=>true|_=>false)
     |.local=>decide (y.1∈own.map (·.1))||decide (y.1∉N)
     |.cell=>decide (y.1∈own.map (·.1))||decide (y.1∉N)
     |_=>true)
%tOe{N:%u}{sc scope:Scope}{own:&3h}(h:uL N sc scope own=true):aK N sc scope own:=by
 u uL at h;s[Bool.and_eq_true,List.all_eq_true,decide_eq_true_eq] at h;o⟨⟨⟨h1,h2⟩,h3⟩,h4⟩:=h;r⟨?_,h2,h3,λy hy e=>?_,λy hy e=>?_⟩
 ·split at h1
  ·assumption
  ·c h1
 ·h q:=h4 y hy;s[e] at q;split at q<;>first|e .inl (by assumption)|e .inr (by assumption)|c q
 ·h q:=h4 y hy;rcases e with e|e<;>(s[e,Bool.or_eq_true,decide_eq_true_eq] at q;e q)
end L2
namespace L2
open PySem PySem.Spec PyProof.Rows
section
variable{prog:Program}{w:World}{A:Around}{R:Result→Shared→Prop}{s:Shared}{elt t0 i0 t1 i1:Expr}{ifs0 ifs1:List Expr}{scope:Scope}{pos:Pos}{it acc:Value}{env:Env}
end
section
variable{X:Cx}
end
end L2
namespace L2
open PySem PySem.Spec PyProof.Rows
section
variable{κ:Type} [DecidableEq κ]
%dLS(kvs:#P)(k:κ):%8i:=(kvs.find? λkv=>decide (kv.1=k)).map (·.2)
%dputK(kvs:#P)(k:κ)(v:V):#P:=
 if(kvs.any λkv=>decide (kv.1=k))=true then kvs.map (λkv=>if kv.1=k then(kv.1,v) else kv) else kvs++[(k,v)]
%dpM(kvs:#P)(k:κ):#P:=kvs.filter λkv=>decide (kv.1≠k)
%tUK{p:κ×V}{r:#P}{k:κ}(e:p.1=k):LS (p::r) k=some p.2:=by simp[LS,List.find?_cons,e]
%tUL{p:κ×V}{r:#P}{k:κ}(e:¬p.1=k):LS (p::r) k=LS r k:=by simp[LS,List.find?_cons,e]
%tY5(k:κ):∀kvs:#P,(kvs.any λkv=>decide (kv.1=k))=(LS kvs k).isSome
 |[]=>rfl
 |p::r=>by
  rw[List.any_cons];c9
  ·s[UK e,decide_eq_true e,Bool.true_or,Option.isSome_some]
  ·rw[UL e,decide_eq_false e,Bool.false_or];e Y5 k r
%tNN(kvs:#P)(k:κ)(v:V):(putK kvs k v).length≤kvs.length+1:=by
 u putK;B
 ·rw[List.length_map];b
 ·rw[List.length_append,List.length_cons,List.length_nil];b
%tJL.HF{o:%8i}{u:&f}(r:JL o u):o.isSome=u.isSome:=by
 cases o with
 |none=>cases u with
  |none=>rfl
  |some _=>e(show False from r).elim
 |some _=>cases u with
  |none=>e(show False from r).elim
  |some _=>rfl
%tJL.getD{o:%8i}{u:&f}{d:V}{d':Value}(r:JL o u)(rd:RelV d d'):RelV (o.getD d) (u.getD d'):=by
 cases o with
 |none=>cases u with
  |none=>e rd
  |some _=>e(show False from r).elim
 |some _=>cases u with
  |none=>e(show False from r).elim
  |some _=>e r
%tKV.val{kvs:#P}{vs:%7V}(r:%3B)(k:κ):JL (LS kvs k) (valueAt vs k):=by
 u KV at r
 induction r with
 |nil=>e True.intro
 |@cons p q ps qs h t ih=>
  o⟨h1,h2⟩:=h;c9
  ·h e':q.1=k:=h1.symm.trans e;h b:valueAt (q::qs) k=some q.2:=by simp[valueAt,List.find?_cons,e']
   rw[UK e,b];e h2
  ·h e':¬q.1=k:=λz=>e &5g;h b:valueAt (q::qs) k=valueAt qs k:=by simp[valueAt,List.find?_cons,e']
   rw[UL e,b];e ih
%tKV.any{kvs:#P}{vs:%7V}(r:%3B)(k:κ):(kvs.any λkv=>decide (kv.1=k))=vs.any λkv=>decide (kv.1=k):=by
 u KV at r
 induction r with
 |nil=>rfl
 |cons h t ih=>rw[List.any_cons,List.any_cons,ih,h.1]
%tKV.qr{kvs:#P}{vs:%7V}(r:%3B)(k:κ){y:V}{u:Value}(ry:%0L):
 KV (kvs.map λkv=>if kv.1=k then(kv.1,y) else kv) (vs.map λkv=>if kv.1=k then(kv.1,u) else kv):=by
 u KV at r ⊢
 induction r with
 |nil=>e .nil
 |@cons p q ps qs h t ih=>
  n0;r .cons ?_ ih;o⟨h1,h2⟩:=h;c9
  ·rw[if_pos e,if_pos (h1.symm.trans e)];e⟨h1,ry⟩
  ·rw[if_neg e,if_neg (λz=>e &5g)];e⟨h1,h2⟩
%tKV.put{kvs:#P}{vs:%7V}(r:%3B)(k:κ){y:V}{u:Value}(ry:%0L):KV (putK kvs k y) (stored vs k u):=by
 u putK stored;rw[r.any k];by_cases e:(vs.any λkv=>decide (kv.1=k))=true
 ·rw[if_pos e,if_pos e];e r.qr k ry
 ·rw[if_neg e,if_neg e];e Paired.snoc r (%4iry)
%tKV.drop{kvs:#P}{vs:%7V}(r:%3B)(k:κ):KV (pM kvs k) (without vs k):=by
 u KV at r ⊢;u pM without
 induction r with
 |nil=>e .nil
 |@cons p q ps qs h t ih=>
  o⟨h1,h2⟩:=h;rw[List.filter_cons,List.filter_cons];c9
  ·h a:¬decide (p.1≠k)=true:=by simp[e]
   h b:¬decide (q.1≠k)=true:=by simp[h1.symm.trans e]
   rw[if_neg a,if_neg b];e ih
  ·h e':¬q.1=k:=λz=>e &5g;h a:decide (p.1≠k)=true:=by simp[e]
   h b:decide (q.1≠k)=true:=by simp[e']
   rw[if_pos a,if_pos b];e .cons ⟨h1,h2⟩ ih
%tKV.keys{kvs:#P}{vs:%7V}(r:%3B):kvs.map (·.1)=vs.map (·.1):=by
 u KV at r
 induction r with
 |nil=>rfl
 |cons h t ih=>rw[List.map_cons,List.map_cons,ih,h.1]
%tKV.length{kvs:#P}{vs:%7V}(r:%3B):kvs.length=vs.length:=Paired.length r
end
%tRF{P:Program}{w:World}{k:Key}{u:Value}(r:%4G%1b):(Ci P w).is k u=true:=by
 cases k with
 |inl i=>o⟨t,e⟩:=(show∃t,u=Value.int i t from r);subst e;e ZQ P w i t
 |inr x=>o⟨t,e⟩:=(show∃t,u=Value.str x t from r);subst e;e ZP P w x t
%tW7{P:Program}{w:World}:∀{ks:%7p} {us:%o},%4I(ks.map kV)→ItemsAre (Ci P w) ks us
 |[],_,r=>by rw[List.map_nil] at r;c r;e .nil
 |k::ks,_,r=>by
  rw[List.map_cons] at r
  cases r with
  |cons h t=>e .cons (RF h) (W7 t)
abbrev KT(H:Hp):%4A→&1s→Prop:=Paired λp q=>p.1=q.1∧H q.2.1=%3J(p.1.map kV)∧RelV p.2 q.2.2
%tKT.val{H:Hp}{kvs:%4A}{xs:&1s}(r:KT H kvs xs)(k:%7p):JL (LS kvs k) ((atKey xs k).map (·.2)):=by
 induction r with
 |nil=>e True.intro
 |@cons p q ps qs h t ih=>
  o⟨h1,_,h2⟩:=h;c9
  ·h e':q.1=k:=h1.symm.trans e;h b:atKey (q::qs) k=some q.2:=by simp[atKey,List.find?_cons,e']
   rw[UK e,b];e h2
  ·h e':¬q.1=k:=λz=>e &5g;h b:atKey (q::qs) k=atKey qs k:=by simp[atKey,List.find?_cons,e']
   rw[UL e,b];e ih
%tKT.qr{H:Hp}{kvs:%4A}{xs:&1s}(r:KT H kvs xs)(k:%7p){y:V}{u:Value}(ry:%0L):
 KT H (kvs.map λkv=>if kv.1=k then(kv.1,y) else kv) (xs.map (putAt k u)):=by
 induction r with
 |nil=>e .nil
 |@cons p q ps qs h t ih=>
  n0;r .cons ?_ ih;o⟨h1,h2,h3⟩:=h;u putAt;c9
  ·rw[if_pos e,if_pos (h1.symm.trans e)];e⟨h1,h2,ry⟩
  ·rw[if_neg e,if_neg (λz=>e &5g)];e⟨h1,h2,h3⟩
%tKT.put{H:Hp}{kvs:%4A}{xs:&1s}(r:KT H kvs xs)(k:%7p){b:Addr}{y:V}{u:Value}(hb:%O=&2h)(ry:%0L):
 KT H (putK kvs k y) (storedH xs k b u):=by
 h e:(kvs.any λkv=>decide (kv.1=k))=(atKey xs k).isSome:=by
  rw[Y5,(r.val k).HF,Option.isSome_map]
 u putK storedH;t;by_cases q:(atKey xs k).isSome=true
 ·rw[if_pos q,%7i];e r.qr k ry
 ·rw[if_neg q,%3V];e Paired.snoc r ⟨rfl,hb,ry⟩
%tKT.keeps{H H':Hp}{kvs:%4A}{xs:&1s}(r:KT H kvs xs)(ht:∀b ys,%O=%3Jys→%0C=%3Jys):KT H' kvs xs:=
 Paired.rn r λ_ _ z=>⟨z.1,ht _ _ z.2.1,z.2.2⟩
section
variable{P:Program}{w:World}{H:Hp}{h:Heap}{a:Addr}
%tpz{u:HO}(ok:HOk P w H h)(e:Rd H a u):C2 P w H h a u:=e.ok ok
%tXj{kvs:#E}(ok:HOk P w H h)(e:Rd H a %3K):kvs.length≤sizeLine∧(a==sysModules)=false∧∃vs,%3B∧h.DictOf (Ci P w) a vs:=
 show C2 P w H h a %3K from pz ok e
%tXk{kvs:#E}(ok:HOk P w H h)(e:&Q=%5p):kvs.length≤sizeLine∧(a==sysModules)=false∧∃vs,%3B∧h.DictOf (Ci P w) a vs:=Xj ok (.inl e)
%tVv{ks:%7p}(ok:HOk P w H h)(e:&Q=%3J(ks.map kV)):(tupleKind (Ci P w)).is h ks a:=by
 o⟨_,its,r,o,h1,h2,n,h3⟩:=(show C2 P w H h a (.tup (ks.map kV)) from ok a _ e);e⟨o,its.toArray,n,h1,h2,h3,by simpa using W7 r⟩
%tao{kvs:%4A}(ok:HOk P w H h)(e:Rd H a &0E):kvs.length≤sizeLine∧(a==sysModules)=false∧
 ∃xs,KT H kvs xs∧h.DictOfH (tupleKind (Ci P w)) a xs:=by
 o⟨z,y,xs,r,o,es,ep,h1,h2,h3,h4,h5⟩:=(show C2 P w H h a &0E from pz ok e);r⟨z,y,xs,r,o,es,ep,h1,h2,h3,h4,λx hx=>?_,h5⟩
 h all:∀{l:%4A} {m:&1s},KT H l m→∀x∈m,(tupleKind (Ci P w)).is h x.1 x.2.1:=by
  intro l m q
  induction q with
  |nil=>intro x hx;e nomatch hx
  |@cons p q ps qs hq t ih=>
   Y;rcases List.mem_cons.mp hx with e|hx
   ·p;e Vv ok (by rw[←hq.1];e hq.2.1)
   ·e ih x hx
 e all r x hx
%tuG{kvs:%4A}(ok:HOk P w H h)(e:&Q=&5v):kvs.length≤sizeLine∧(a==sysModules)=false∧
 ∃xs,KT H kvs xs∧h.DictOfH (tupleKind (Ci P w)) a xs:=ao ok (.inl e)
end
%dM1(H:Hp)(a:Addr)(y:V)(r:%8i):Prop:=
 (∃kvs k,Rd H a %3K∧y=%1b∧r=LS kvs k)∨∃kvs k b,Rd H a &0E∧y=%9X∧%O=&2h∧r=LS kvs k
%dWw(H:Hp)(a:Addr)(y v:V)(H':Hp):Prop:=
 (∃kvs k,&Q=%5p∧y=%1b∧kvs.length<sizeLine∧H'=%Ya(.dK (putK kvs k v)))∨
 ∃kvs k b,&Q=&5v∧y=%9X∧%O=&2h∧kvs.length<sizeLine∧H'=%Ya(.dT (putK kvs k v))
%tM1.k{H:Hp}{a:Addr}{kvs:#E}{k:Key}(e:&Q=%5p):M1 H a %1b (LS kvs k):=.inl ⟨kvs,k,.inl e,rfl,rfl⟩
%tM1.t{H:Hp}{a b:Addr}{kvs:%4A}{k:%7p}(e:&Q=&5v)(eb:%O=&2h):M1 H a %9X (LS kvs k):=.inr ⟨kvs,k,b,.inl e,rfl,eb,rfl⟩
%tWw.k{H:Hp}{a:Addr}{kvs:#E}{k:Key}{v:V}(e:&Q=%5p)(hl:kvs.length<sizeLine):Ww H a %1b v (%Ya(.dK (putK kvs k v))):=.inl ⟨kvs,k,e,rfl,hl,rfl⟩
%tWw.t{H:Hp}{a b:Addr}{kvs:%4A}{k:%7p}{v:V}(e:&Q=&5v)(eb:%O=&2h)(hl:kvs.length<sizeLine):
 Ww H a %9X v (%Ya(.dT (putK kvs k v))):=.inr ⟨kvs,k,b,e,rfl,eb,hl,rfl⟩
section
variable{X:Cx}{pins:List (Addr×Obj)}{σ:St}{H:Hp}{s:Shared}{a:Addr}{y v:V}{u r:Value}{o:Option V}{A:Around}{E:Value→Shared→Prop}
%tInv.big(I:%f):sysModules<s.heap.objs.size:=by
 h h:mainGlobals<s.heap.objs.size:=(I.mod.glob.keeps I.bk).lt;e Nat.lt_trans (by decide) h
%tXn{Q:Value→Shared→Prop}(hu:A.units+1<cLine)(I:%f)(g:M1 H a y %W)(ry:%0L)(h:∀w' s',%3cs'→RelV v w'→Q w' s'):
 %3bA(getItem %N u)Q E s:=by
 k7
 ·subst ey;g8;o⟨w',hw,rw'⟩:=JL.some_of (v:=v) (o:=valueAt vs k) (by rw[l];e %9s);e wpAny_getItem_of (RF ry) dd.mapOf hw (h w' _ %1B rw')
 ·subst ey;k3;o⟨w',hw,rw'⟩:=JL.some_of (v:=v) (o:=(atKey xs k).map (·.2)) (by rw[l];e %9s);o⟨p,hp,hp2⟩:=Option.map_eq_some_iff.mp hw;r wpAny_getItem_heap &5Y (Vv I.hok eb) dd hp ?_;rw[hp2];e h w' _ %1B rw'
%tvF{Q:Value→Shared→Prop}(hu:A.units+1<cLine)(I:%f)(g:M1 H a y o)(ry:%0L)(h:∀s',%3cs'→Q (.bool o.isSome) s'):
 %3bA(compareOp .In u %N)Q E s:=by
 k7
 ·subst ey;g8;r wpAny_in_of (RF ry) hd dd.mapOf ?_;rw[←%9s.HF,←l];e h _ %1B
 ·subst ey;k3;r wpAny_in_heap &5Y (Vv I.hok eb) hd dd ?_;h q:=%9s.HF;rw[Option.isSome_map] at q;rw[←q,←l];e h _ %1B
%toj{Q:Value→Shared→Prop}(hu:A.units+1<cLine)(I:%f)(g:M1 H a y o)(ry:%0L)(h:∀s',%3cs'→Q (.bool (!o.isSome)) s'):
 %3bA(compareOp .NotIn u %N)Q E s:=by
 k7
 ·subst ey;g8;r wpAny_notIn_of (RF ry) hd dd.mapOf ?_;rw[←%9s.HF,←l];e h _ %1B
 ·subst ey;k3;r wpAny_notIn_heap &5Y (Vv I.hok eb) hd dd ?_;h q:=%9s.HF;rw[Option.isSome_map] at q;rw[←q,←l];e h _ %1B
%tR8{h':Heap}{t':Nat}{ob:HO}(I:%f)(mu:Mut &Q)(hs:&3la h')(he:∃q,&5y=%6w)(new:C2 X.prog X.w (%Ya ob) h' a ob):
 &2F(%Ya ob):=
 I.write (x:=a) (e:=a) mu %U (λb q hb z=>(hs.2 b hb).trans z) he new
%tYK{P:Program}{w:World}{H':Hp}{h':Heap}{kvs:#E}{vs:&3d}(z:kvs.length≤sizeLine)(hd:(a==sysModules)=false)(rel:%3B)(dd:h'.DictOf (Ci P w) a vs):
 C2 P w H' h' a %3K:=⟨z,hd,vs,rel,dd⟩
%tXm{H':Hp}{Q:Unit→Shared→Prop}(hu:A.units+1<cLine)(I:%f)(g:Ww H a y v H')(ry:%0L)(rv:RelV v r)(h:∀s',&OH' s'→Q () s'):
 %3bA(setItem %N u r)Q E s:=by
 rcases g with⟨kvs,k,e,ey,l,eH⟩|⟨kvs,k,b,e,ey,eb,l,eH⟩
 ·subst ey eH;o⟨z,hd,vs,rel,dd⟩:=Xk I.hok e;h hz:vs.length≤sizeLine:=by rw[←rel.length];e z
  w6;r wpAny_setItem_pairs (hsz:=hz) (RF ry) dd λh' dd' hs=>h _ ?_
  h he:∃q,&5y=%6w:=let⟨q,_,_,hq,_⟩:=dd';⟨q,hq⟩
  e R8 I (by rw[e];e True.intro) hs he (YK hl hd (rel.put k rv) dd')
 ·subst ey eH;c(show u=Value.ref b from ry);o⟨z,hd,xs,rel,dd⟩:=uG I.hok e;h hz:xs.length≤sizeLine:=by rw[←Paired.length rel];e z
  w6;r wpAny_setItem_heap (hsz:=hz) &5Y (Vv I.hok eb) dd λh' dd' hs=>h _ ?_;o⟨q,es,ep,hq,h2,h3,h4,_,h5⟩:=dd';r R8 I (by rw[e];e True.intro) hs ⟨q,hq⟩ ⟨hl,hd,_,(rel.put k eb rv).keeps λc ys ec=>?_,q,es,ep,hq,h2,h3,h4,h5⟩;rw[Ay (ud ec e (λz=>nomatch z))];e ec
end
section
variable{X:Cx}{pins:List (Addr×Obj)}{σ:St}{H:Hp}{s:Shared}{a:Addr}{kvs:List (Key×V)}{k:Key}{u:Value}{A:Around}{E:Value→Shared→Prop}
%tuH{Q:Value→Shared→Prop}(I:%f)(e:Rd H a %3K)(h:∀t s',%3cs'→Q (.int kvs.length t) s'):%3bA(call &4C [%N])Q E s:=by
 g8;r call_len_dict hd dd (by rw[←rel.length];rw[sizeLine_eq] at z;omega) ?_;rw[←rel.length];e h _ _ %1B
end
%dlB(i:Expr):Prop:=∀ov iv,subscripted i false ov iv=operate [ov,iv] (getItem ov iv)
%tcH{prog:Program}{w:World}{A:Around}{E:Value→Shared→Prop}{s:Shared}{env:Env}{value slice:Expr}{pos:Pos}{T id:String}{Q:Value→Shared→Prop}
 (hl:typeLookup (.type T) "__getitem__"=pure (some %6T)) (hs:lB slice)
 (h:#mw A(eval value env)(λo s₁=>#mw A(eval slice env)(λi s₂=>s₂.TypeIs o T∧#mw A(getItem o i)Q E s₂)E s₁)E s):
 #mw A(eval (%9rvalue slice) env)Q E s:=by
 r Subscript_ (wpAny_mono h (λo s₁ h₁=>wpAny_mono h₁ (λi s₂ h₂=>?_) λ_ _ x=>x) λ_ _ x=>x);o⟨hT,h₂⟩:=h₂;u subscriptTail;C;rw[getitemInPython_of_ne hT.not_modules];r wpAny_bind (wpAny_specialOf hT hl ?_)
 h fin:#mw A(subscripted slice false o i)(λr s₃=>#mw A(letTemporaryGo value o r>>= λ_=>pure r)Q E s₃)E s₂:=by
  rw[hs o i];e wpAny_operating (wpAny_mono h₂ (λr s₃ h₃=>wpAny_bind (wpAny_letTemporaryGo (wpAny_pure h₃))) λ_ _ x=>x)
 first
  |e wpAny_pure (wpAny_bind fin)
  |e %8X(wpAny_bind fin)
  |e wpAny_bind fin
%taq{X:Cx}{pins:%G}{σ:St}{H:Hp}{s:Shared}{a:Addr}{y:V}{o:%8i}(I:%f)(g:M1 H a y o):s.TypeIs %N "dict":=by
 rcases g with⟨kvs,k,e,_,_⟩|⟨kvs,k,b,e,_,_,_⟩
 ·o⟨_,_,vs,_,dd⟩:=Xj I.hok e;e dd.typeIs
 ·o⟨_,_,xs,_,dd⟩:=ao I.hok e;e dd.typeIs
%dtq(td ty:TE):TE:=λσ H Q=>td σ H λx H1=>ty σ H1 λy H2=>∃a v,x=%N∧M1 H2 a y %W∧Q v H2
%dvb(ty td:TE):TE:=λσ H Q=>ty σ H λy H1=>td σ H1 λx H2=>∃a o,x=%N∧M1 H2 a y o∧^No.isSome H2
%dlU(ty td:TE):TE:=λσ H Q=>ty σ H λy H1=>td σ H1 λx H2=>∃a o,x=%N∧M1 H2 a y o∧^N(!o.isSome)H2
%dtG(td ty tv:TE):TS:=λD σ H=>tv σ H λv H1=>td σ H1 λx H2=>ty σ H2 λy H3=>∃a H4,x=%N∧Ww H3 a y v H4∧%5JH4
%dtH(td ty tv:TE)(rd:V→V→Hp→VK→Prop):TS:=λD σ H=>td σ H λx H1=>ty σ H1 λy H2=>∃a v,x=%N∧M1 H2 a y %W∧
 tv σ H2 λy2 H3=>rd v y2 H3 λz H4=>∃H5,Ww H4 a y z H5∧%5JH5
section
variable{X:Cx}{o i e value:Expr}{pos pos' tpos:Pos}{td ty tv:TE}
%tmZ(hu:X.A.units+1<cLine)(ho:%ko td)(hi:%ki ty)(hs:lB i):%k(%9ro i)(tq td ty):=by
 j;r cH PySem.F.slot_dict_getitem.lookup hs (thn (ho pins s σ H _ I h) λu s1 ⟨x,H1,I1,rx,q1⟩=>thn (hi pins s1 σ H1 _ I1 q1) λiv s2 ⟨y,H2,I2,ry,a,v,ex,g,q2⟩=>?_);W;e⟨aq I2 g,Xn hu I2 g ry λw' s3 I3 rw'=>⟨v,H2,I3,rw',q2⟩⟩
%tjs(hu:X.A.units+1<cLine)(hi:%ki ty)(ho:%ko td):PC X .In i o (vb ty td):=by
 o6;W;e vF hu I2 g ry λs3 I3=>⟨.bl ov.isSome,H2,I3,rfl,q2⟩
%tfF(hu:X.A.units+1<cLine)(hi:%ki ty)(ho:%ko td):PC X .NotIn i o (lU ty td):=by
 o6;W;e oj hu I2 g ry λs3 I3=>⟨.bl (!ov.isSome),H2,I3,rfl,q2⟩
%tmI(hu:X.A.units+1<cLine)(ho:%ko td)(hi:%ki ty)(hv:%kvalue tv)(hs:%7Uvalue(some (.Subscript o i pos'))X.env=%7c):
 PS X (&1g[.Subscript o i pos']value) (tG td ty tv):=by
 D;r wpAny_Assign_Subscript (thn (hv pins s σ H _ I h) λr s1 ⟨v,H1,I1,rv,q1⟩=>thn (ho pins s1 σ H1 _ I1 q1) λu s2 ⟨x,H2,I2,rx,q2⟩=>thn (hi pins s2 σ H2 _ I2 q2) λiv s3 ⟨y,H3,I3,ry,a,H4,ex,g,q3⟩=>?_) hs;W;e Xm hu I3 g ry rv λs4 I4=>⟨σ,H4,I4,q3⟩
%tmJ{op:Operator}{rd:V→V→Hp→VK→Prop}(hu:X.A.units+1<cLine)(ho:%ko td)(hi:%ki ty)(hv:%kvalue tv)(hop:lC X op rd)
 (ha:∀ov iv new,augStore i ov iv new=(do holding [new,ov,iv] (setItem ov iv new);release [new,ov,iv] [];pure .next)):PS X (.AugAssign (.Subscript o i tpos) op value pos) (tH td ty tv rd):=by
 D;r wpAny_AugAssign_SubscriptAny (thn (ho pins s σ H _ I h) λu s1 ⟨x,H1,I1,rx,q1⟩=>thn (hi pins s1 σ H1 _ I1 q1) λiv s2 ⟨y,H2,I2,ry,a,v,ex,g,q2⟩=>?_) ha;W;r Xn hu I2 g ry λw' s3 I3 rw'=>thn (hv pins s3 σ H2 _ I3 q2) λw2 s4 ⟨y2,H3,I4,ry2,q3⟩=>thn (hop pins s4 σ H3 v y2 w' w2 _ I4 rw' ry2 q3) λw3 s5 ⟨z,H4,I5,rz,H5,g5,q4⟩=>?_;e Xm hu I5 g5 ry rz λs6 I6=>⟨σ,H5,I6,q4⟩
end
%tVL{P:Program}{w:World}{H:Hp}(h:Heap)(hb:sysModules<h.objs.size):C2 P w H (h.push {cls:=%1z,data:=%3Q}) h.objs.size %8v:=
 ⟨Nat.zero_le _,beq_eq_false_iff_ne.mpr (Ne.symm (Nat.ne_of_lt hb)),[],.nil,Heap.DictOf.new h⟩
%dp9:TE:=λ_ H Q=>∀p,%0q=none→%1S(%Yp%8v)
section
variable{X:Cx}{pos:Pos}
%tjo:%k(.Dict [] [] pos)p9:=λpins s σ H Q I h=>
 wpAny_Dict_empty ⟨%6R,_,I.laid (a:=s.heap.objs.size) (o:=%8v) (t':=s.toks) (λ_ _ q=>%6y) %L (VL s.heap I.big),rfl,h _ %5f⟩
end
%dXW:&4L→St→Hp→(List (V×V)→Hp→Prop)→Prop
 |[],_,H,Q=>Q [] H
 |(tk,tv)::r,σ,H,Q=>tk σ H λx H1=>tv σ H1 λy H2=>XW r σ H2 λps H3=>Q ((x,y)::ps) H3
abbrev VV:&3q→List (Value×Value)→Prop:=Paired λp q=>RelV p.1 q.1∧RelV p.2 q.2
%dPPs(X:Cx)(pos:Pos)(keys:&3D)(values:%0i)(trs:&4L):Prop:=
 ∀(pins:%G) (s:Shared) (σ:St) (H:Hp) (Q:&3q→Hp→Prop),%f→XW trs σ H Q→
  #i(evalPairs (pairTrees keys values X.env pos))(λvs s'=>∃ps H',&OH' s'∧VV ps vs∧Q ps H')
%tmL{X:Cx}{pos:Pos}:PPs X pos [] [] []:=λpins s σ H Q I h=>pairTrees_nil_walk ⟨[],H,I,.nil,h⟩
%tjf{X:Cx}{pos:Pos}{k v:Expr}{ks:&3D}{vs:%0i}{tk tv:TE}{trs:&4L}(hk:%kk tk)(hv:%kv tv)(hr:PPs X pos ks vs trs):
 PPs X pos (some k::ks) (v::vs) ((tk,tv)::trs):=λpins s σ H Q I h=>
 pairTrees_cons_walk (thn (hk pins s σ H _ I h) λu s1 ⟨x,H1,I1,rx,q1⟩=>thn (hv pins s1 σ H1 _ I1 q1) λw2 s2 ⟨y,H2,I2,ry,q2⟩=>
  thn (hr pins s2 σ H2 _ I2 q2) λws s3 ⟨ps,H3,I3,rel,q3⟩=>⟨(x,y)::ps,H3,I3,.cons ⟨rx,ry⟩ rel,q3⟩)
%dKv(kvs more:#E):#E:=more.foldl (λacc kv=>putK acc kv.1 kv.2) kvs
%tKV.merge:∀{more:#E} {rs:&3d} {kvs:#E} {vs:&3d},KV more rs→%3B→KV (Kv kvs more) (merged vs rs):=by
 intro more rs kvs vs r;u KV at r
 induction r generalizing kvs vs with
 |nil=>intro q;e q
 |@cons p q ps qs h t ih=>
  intro r0
  h e:KV (putK kvs p.1 p.2) (stored vs q.1 q.2):=by
   h:=r0.put p.1 h.2;rw[←h.1];G
  e ih e
%tKz:∀(more kvs:#E),(Kv kvs more).length≤kvs.length+more.length
 |[],kvs=>by show kvs.length≤kvs.length+0;omega
 |p::r,kvs=>by
  h h1:=Kz r (putK kvs p.1 p.2);h h2:=NN kvs p.1 p.2;show(Kv (putK kvs p.1 p.2) r).length≤_;rw[List.length_cons];b
%tVQ{P:Program}{w:World}:∀{kvs:#E} {ws:List (Value×Value)},VV (kvs.map λkv=>(kV kv.1,kv.2)) ws→∃rs,Carries (Ci P w) ws rs∧KV kvs rs
 |[],_,r=>by rw[List.map_nil] at r;c r;e⟨[],True.intro,.nil⟩
 |p::kvs,_,r=>by
  rw[List.map_cons] at r
  cases r with
  |@cons a b as bs h t=>
   o⟨rs,c,q⟩:=VQ (P:=P) (w:=w) t;o⟨b1,b2⟩:=b;e⟨(p.1,b2)::rs,⟨RF h.1,rfl,c⟩,.cons (%4ih.2) q⟩
%dtp(trs:&4L):TE:=λσ H Q=>∀p,%0q=none→XW trs σ (%Yp%8v) λps H2=>H2 p=some %8v∧∃kvs:#E,ps=kvs.map (λkv=>(kV kv.1,kv.2))∧kvs.length≤15∧%1S(upd H2 p (.dK (Kv [] kvs)))
%tmY{X:Cx}{pos:Pos}{keys:&3D}{values:%0i}{trs:&4L}(h:PPs X pos keys values trs)(hall:keys.all (·.isSome)=true)(hl:keys.length=values.length)(h0:keys≠[])
 (h15:keys.length≤15):%k(.Dict keys values pos)(tp trs):=by
 intro pins s σ H Q I q;h hn:=I.hok.fresh (Nat.le_refl s.heap.objs.size);h I1:=I.laid (a:=s.heap.objs.size) (o:=%8v) (h':=s.heap.push {cls:=%1z,data:=%3Q}) (t':=s.toks) (λ_ _ q=>%6y) %L (VL s.heap I.big);r wpAny_Dict_walk (knd:=Ci X.prog X.w) hall hl h0 h15 (thn (h pins _ σ _ _ I1 (q _ hn)) λws s2 ⟨ps,H2,I2,rel,e,kvs,ep,lk,q2⟩=>?_);subst ep;o⟨rs,c,rk⟩:=VQ (P:=X.prog) (w:=X.w) rel;o⟨z,hd,vs0,r0,dd⟩:=Xk I2.hok e;c r0;r⟨rs,c,dd,λh' dd' hs=>⟨.ref s.heap.objs.size,_,?_,rfl,q2⟩⟩
 h hz:(Kv [] kvs).length≤sizeLine:=by
  h h1:=Kz kvs [];rw[List.length_nil] at h1;rw[sizeLine_eq];b
 h he:∃q,h'.get? s.heap.objs.size=%6w:=let⟨q,_,_,hq,_⟩:=dd';⟨q,hq⟩
 e R8 I2 (by rw[e];e True.intro) hs he (YK hz hd (rk.merge .nil) dd')
section
variable{X:Cx}{pins:List (Addr×Obj)}{σ:St}{H:Hp}{s:Shared}{a:Addr}{y d:V}{u r:Value}{o:Option V}{A:Around}{E:Value→Shared→Prop}
end
section
variable{X:Cx}{o e f:Expr}{apos cpos:Pos}{td ty tx:TE}
end
section
variable{X:Cx}{pins:List (Addr×Obj)}{σ:St}{H:Hp}{s:Shared}{a:Addr}{kvs:List (Key×V)}{A:Around}{E:Value→Shared→Prop}
end
section
variable{X:Cx}{pins:List (Addr×Obj)}{σ:St}{H:Hp}{s:Shared}{a:Addr}{y:V}{u:Value}{A:Around}{E:Value→Shared→Prop}
end
end L2
namespace L2
open PySem PySem.Spec PyProof.Rows
section
variable{prog:Program}{w:World}{A:Around}{E:Value→Shared→Prop}
end
section
variable{X:Cx}
end
end L2
namespace L2
open PySem PySem.Spec PyProof.Rows
section
variable{X:Cx}{pins:List (Addr×Obj)}{σ:St}{H:Hp}{s:Shared}{h':Heap}
%tInv.lQ{t':Nat}{ch:&H}(I:%f)(k:∀b o,b∉ch→%0t=%b→#Q=%b)(hf:∀b∈ch,Ut X pins H b):%3c{s with heap:=h',toks:=t'}:=by
 h nit:∀b u,%O=%x→b∉ch:=λb u e z=>by
  h q:=(hf b z).1;O;d
 r I.step (g':=s.gens) (d':=s.drawn) (ch:=ch) (λb hb=>⟨(hf b hb).2.2.2.1,(hf b hb).2.1,(hf b hb).2.2.2.2.1,(hf b hb).2.2.2.2.2⟩) (λb o _ _ hc e _=>k b o hc e) (λb o _ _ hc e _=>⟨o.slots,k b o hc e⟩)
  (λ_ _ _ _ n=>n) (λb o hc e=>⟨o,k b o hc e⟩) (λ_ _ e=>e) (λ_ _ _ e=>e) (λb ps e=>⟨#[],by rw[e];simp⟩) (λm hm=>?_) (λb u e=>?_) I.bare
 ·u1
 ·s3
  ·w;e nit b u e
  ·e nit c _ z
%tInv.WE{t':Nat}{ch:&H}{T:Addr}{ob:HO}(I:%f)(k:∀b o,b∉ch→%0t=%b→#Q=%b)(hf:∀b∈ch,Ut X pins H b)(hT:s.heap.objs.size≤T)
 (new:C2 X.prog X.w (%YT ob) h' T ob):&2F(%YT ob):=by
 h hn:H T=none:=I.hok.fresh hT
 h nit:∀b u,%O=%x→b∉ch:=λb u e z=>by
  h q:=(hf b z).1;O;d
 r I.step (g':=s.gens) (d':=s.drawn) (ch:=ch) (λb hb=>⟨(hf b hb).2.2.2.1,(hf b hb).2.1,(hf b hb).2.2.2.2.1,(hf b hb).2.2.2.2.2⟩) (λb o _ _ hc e _=>k b o hc e) (λb o _ _ hc e _=>⟨o.slots,k b o hc e⟩)
  (λb o _ e n=>?_) (λb o hc e=>⟨o,k b o hc e⟩) (λb xs e=>?_) (λb o u e=>?_) (λb ps e=>⟨#[],?_⟩) (λm hm=>?_) (λb u e=>?_) I.bare
 ·rw[Ay (&2Ce hT)];e n
 ·rw[Ay (AN e hn)];e e
 ·rw[Ay (AN e hn)];e e
 ·rw[Ay (AN e hn),e];i
 ·u1
 ·by_cases hb:b=T
  ·subst hb;rw[Bi] at e;d;e new
  ·rw[Ay hb] at e;r(I.hok b u e).Jb (λc v hc q=>k c v ?_ q) (λc q=>by rw[Ay (AN q hn)];e q) λc xs q=>by rw[Ay (AN q hn)];e q
   rcases hc with z|z
   ·w;e nit b u e
   ·e nit c _ z
%tInv.lock{d:Addr}{u:HO}(I:%f)(h:%1X=%x)(mu:Mut %x):∃od,&O(%Yd(.frz od u))s:=by
 h x:=I.hok d u h
 h ex:∃od,%6X=&0Y:=by
  cases u with
  |lst xs=>o⟨_,_,_,_,e⟩:=x;e⟨_,e⟩
  |dK kvs=>o⟨_,_,_,_,o,_,_,e,_⟩:=x;e⟨o,e⟩
  |dT kvs=>o⟨_,_,_,_,o,_,_,e,_⟩:=x;e⟨o,e⟩
  |set S n=>o⟨o,_,_,_,e,_⟩:=x;e⟨o,e⟩
  |ins C dx fs=>o⟨_,_,_,e,_⟩:=x;e⟨_,e⟩
  |ext φ=>o⟨_,⟨_,e⟩,_⟩:=x;e⟨_,e⟩
  |_=>e False.elim mu
 o⟨od,e⟩:=ex
 h new:C2 X.prog X.w (%Yd(.frz od u)) s.heap d (.frz od u):=by
  r⟨e,x.Jb (λb v _ q=>q) (λb q=>?_) λb xs q=>?_⟩
  ·rw[Ay (λz=>by rw[z,h] at q;c q;e mu)];e q
  ·rw[Ay (λz=>by rw[z,h] at q;c q;e mu)];e q
 e⟨od,I.write (x:=d) (e:=d) (t':=s.toks) (h':=s.heap) (by rw[h];e mu) %U (λb v _ q=>q) ⟨od,e⟩ new⟩
%tInv.cY{d:Addr}{u:HO}(I:%f)(h:%1X=%x)(mu:Mut %x):∀o' u',X.H_0 d≠^Go' u':=λo' u' e=>by
 h q:=I.base.OW d o' u' e;rw[h] at q;c q;e mu
%tInv.unlock{d:Addr}{od:Obj}{u:HO}(I:%f)(h:%1X=&2eu)(hn:∀o' u',X.H_0 d≠^Go' u'):&O(%Yd u)s:=by
 h neH:∀b o,%O=%b→(∀o' u',o≠.frz o' u')→b≠d:=λb o e hne z=>by
  rw[z,h] at e;d;e hne _ _ rfl
 h neN:∀b,%O=none→b≠d:=λb e z=>by rw[z,h] at e;c e
 r⟨I.ok,I.os,I.bare,⟨I.base.keep,I.base.slot,λb o e n hx=>?_,I.base.there,λb xs e=>?_,λb o x e=>?_,λb ps e=>?_⟩,I.loc,I.cell,?_,λx c e=>?_,λp hp=>?_,λb o e=>?_,I.len⟩
 ·rw[Ay (neN b (I.base.free b o e n hx))];e I.base.free b o e n hx
 ·h q:=I.base.Qp b xs e;rw[Ay (&2Rb _ q)];e q
 ·h q:=I.base.OW b o x e;rw[Ay (λz=>by rw[z] at e;e hn _ _ e)];e q
 ·o⟨m,q⟩:=I.base.Qq b ps e;e⟨m,by rw[Ay (&2Rb _ q)];e q⟩
 ·rw[Ay (neN _ I.free)];e I.free
 ·rw[Ay (neN c (I.Ia x c e))];e I.Ia x c e
 ·o⟨e,n,r⟩:=I.pin p hp;e⟨e,by rw[Ay (neN _ n)];e n,r⟩
 ·by_cases hb:b=d
  ·rw[hb,Bi] at e;d;rw[hb];o⟨_,x⟩:=I.hok d _ h;e x.Jb (λc v _ q=>q) (λc q=>by rw[Ay (&2Rc _ q)];e q) λc xs q=>by rw[Ay (&2Rc _ q)];e q
  ·rw[Ay hb] at e;e(I.hok b o e).Jb (λc v _ q=>q) (λc q=>by rw[Ay (&2Rc _ q)];e q) λc xs q=>by rw[Ay (&2Rc _ q)];e q
end
%dtf(t:TS):TS:=λD σ H=>∃d u,%1X=%x∧Mut %x∧∀od,t ⟨λσ' H'=>H' d=&2eu∧D.nx σ' (upd H' d u),λv H'=>H' d=&2eu∧D.rt v (upd H' d u),λσ' H'=>H' d=&2eu∧D.bk σ' (upd H' d u),λσ' H'=>H' d=&2eu∧D.ct σ' (upd H' d u)⟩ σ (%Yd(.frz od u))
section
variable{X:Cx}
%tcV{st:Stmt}{t:TS}(h:PS X st t):PS X st (tf t):=by
 intro pins s σ H D I hw;o⟨d,u,hd,mu,hw⟩:=hw;o⟨od,I1⟩:=I.lock hd mu;r thn (h pins s σ _ _ I1 (hw od)) λf s1 q=>?_
 cases f with
 |next=>o⟨σ',H',I2,e,q⟩:=q;e⟨σ',_,I2.unlock e (I.cY hd mu),q⟩
 |brk=>o⟨σ',H',I2,e,q⟩:=q;e⟨σ',_,I2.unlock e (I.cY hd mu),q⟩
 |cont=>o⟨σ',H',I2,e,q⟩:=q;e⟨σ',_,I2.unlock e (I.cY hd mu),q⟩
 |ret v=>o⟨x,σ',H',I2,r,e,q⟩:=q;e⟨x,σ',_,I2.unlock e (I.cY hd mu),r,q⟩
%tYg{tg:Expr}{pins:%G}{σ:St}{H:Hp}{s:Shared}{R:It→Hp→Prop}{J:It}{tn:Nat→Heap→Prop}{tk:Nat}(I:%f)(o:Obj)
 (T:Turn X.prog X.w X.K tg J [s.heap.objs.size] s.heap.objs.size tn) (st:tn 0 (s.heap.push o)) (q:R J H):PIE X pins σ tg R %6R {s with heap:=s.heap.push o,toks:=tk}:=by
 r⟨s.heap.objs.size,[s.heap.objs.size],tn,J,H,rfl,I.kept λb ob e=>%5C,T,st,λb hb=>?_,q⟩;h e:b=s.heap.objs.size:=by simpa using hb
 p;e I.bZ %L %5f
end
%dRgC(i j c:Int)(n:Nat):Prop:=c≠0∧c.natAbs<1073741824∧Builtin.Range.small i j c=true∧Builtin.Range.rangeSize i j c=n
%tRgC.neg{i j:Int}(ha:-(2^62)≤i)(ha':i<2^62)(hb:-(2^62)≤j)(hb':j<2^62):RgC i j (-1) (i-j).toNat:=
 ⟨by decide,by decide,PySem.W.small_down ha ha' hb hb',PySem.W.rangeSize_downNat i j⟩
section
variable{X:Cx}{tg:Expr}
end
section
variable{X:Cx}{tg:Expr}
end
%dIts(x:Str):It:=⟨λi _=>i<x.cps.size,λi H v H'=>H'=H∧∃c,x.cps[i]? =&q∧v=%9k,λi _=>x.cps.size≤i⟩
%tY6{P:Program}{w:World}{K:PySem.W.Frag}{tg:Expr}(it:Addr)(x:Str)(t:Tok)(ty:String)(hty:ty="str_ascii_iterator"∨ty="str_iterator"):
 Turn P w K tg (Its x) [it] it (λi h=>h.IsStrIter it ty x t i) where
 mem:=by simp
 obj:=λi h st b hb=>by
  b6;k9
 keep:=λi h h' st k=>let⟨o,ho,r⟩:=st;⟨o,%6vit o ho,r⟩
 item:=by
  H;N
  h W:Walks X.prog X.w X.A it [it] [it] x.cps.size (SignAt x) (λi h=>h.IsStrIter it ty x t i):=by
   i7
   ·t;e Walks.strAscii %3f it x t
   ·t;e Walks.strWide %3f it x t
  h hno:["enumerate","zip","dict_itemiterator","dict_reverseitemiterator","odict_iterator","itertools.zip_longest","itertools.pairwise"].contains ty=false:=by
   i7
   ·t;decide
   ·t;decide
  r W.item i s _ _ hg st λv h' tk hv st' kk=>?_;o⟨c,u,hcx,rfl⟩:=hv;q4;o⟨oi,e,cc,dd⟩:=id st';e⟨_,rfl,Xd (s:={s with heap:=h',toks:=tk}) e cc dd hno ⟨%9k,H,I1,%5Vu,⟨rfl,c,hcx,rfl⟩,st',λb hb=>(hf b hb).1⟩⟩
 done:=by
  H;N;h hx:x.cps[i]? =none:=Array.getElem?_eq_none hg;i7
  ·rw[e] at st;e wpAny_pyNext_ascii_end %3f st hx λh' eb=>⟨rfl,%5U(λb o hb e=>eb b o hb e)f0 f1 f3 f4 f5⟩
  ·rw[e] at st;e wpAny_pyNext_wide_end %3f st hx λh' eb=>⟨rfl,%5U(λb o hb e=>eb b o hb e)f0 f1 f3 f4 f5⟩
 self:=λA i s Q E st h=>by
  i7
  ·rw[e] at st;e wpAny_pyIter_striter_ascii st h
  ·rw[e] at st;e wpAny_pyIter_striter_wide st h
%dvA(te:TE):TI:=λσ H R=>te σ H λv H1=>∃x,v=%0J∧R (Its x) H1
%tqM{X:Cx}{tg e:Expr}{te:TE}(he:%ke te):PI X tg e (vA te):=by
 Z;r thn (he pins s σ H _ I h) λv s1 ⟨y,H1,I1,r1,x,ex,q⟩=>?_;P;o⟨t,rfl⟩:=r1;cases ha:x.cps.all (·<128)
 ·e wpAny_pyIter_wide ha (Yg (tk:=s1.toks) I1 _ (Y6 _ x t "str_iterator" %1j) ⟨_,^l,rfl,rfl⟩ q)
 ·e wpAny_pyIter_ascii ha (Yg (tk:=s1.toks) I1 _ (Y6 _ x t "str_ascii_iterator" %U) ⟨_,^l,rfl,rfl⟩ q)
section
variable{prog:Program}{w:World}{A:Around}{E:Value→Shared→Prop}{s:Shared}
%tS4{d:Addr}{o:Obj}{es:%4B}{ep:Nat}{Q:Value→Shared→Prop}(hd:(d==sysModules)=false)(ho:%6X=%b)(hc:o.ExactDict)(hdat:o.data=%1Q)
 (hQ:Q %6R {s with heap:=s.heap.push {cls:=.type "dict_keyiterator",data:=.fields #[.ref d,.int 0 0,.int es.size 0,.int ep 0]}}):
 #mw A(pyIter ^z)Q E s:=by
 h hT:s.TypeIs ^z "dict":=⟨o,ho,hc.1⟩;r wpAny_pyIter_slot hT F.slot_dict_iter (&4gF.slot_dict_iter hT F.entry_dict_iter(F.args_dict_iter_1 _));u Builtin.«dict.__iter__»;C;u Builtin.Dict.dictSlotNone;r wpAny_bind (wpAny_notOrdered_dict hT ?_);show #A_ _(pure (Value.ref d))_ _;r %0R;show #A_ _(Builtin.Dict.showsAll d>>= _)_ _;u Builtin.Dict.showsAll;rw[if_neg (by rw[hd];e Bool.false_ne_true)];r %5h;r &6mho hdat ?_;r &6rho hdat ?_;r wpAny_bind (wpAny_newObj_type (wpAny_pure ⟨_,rfl,"dict_keyiterator",_,%9d_^l,F.slot_dict_keyiterator_next.lookup,?_⟩));simpa [rawInt] using hQ
%tWr{it d:Addr}{i n ep:Nat}{od:Obj}{es:%4B}{en:DictEntry}{Q:&f→Shared→Prop}(hit:&0Fit d i n)(hod:%6X=&0Y)(hdd:od.data=%1Q)
 (hsz:es.size=n) (hx:es[i]? =some en) (hQ:∀h',h'.IsKeyIter it d (i+1) n ep→&3lit h'→%5T(some en.key)):#mw A&6E Q E s:=by
 o⟨o,ho,hc,hd⟩:=id hit;u pyNext
 r wpAny_bind (wpAny_attempt (wpAny_callSpecial?_slot (name:=&4s) hit.typeIs F.slot_dict_keyiterator_next
  (&4gF.slot_dict_keyiterator_next hit.typeIs F.entry_dict_keyiterator_next(F.args_dict_keyiterator_next_1 _))))
 r %5h;C;C
 first|r &3H|r &3M
 m3;j0;r %5h;l5;r %5h;r &6rhod hdd ?_;a0;r %0R;o⟨hlt',hen⟩:=Array.getElem?_eq_some_iff.mp hx;s[show¬((i:Int)<0) from %w,if_false,Int.toNat_natCast,Array.getElem?_eq_getElem hlt'];C
 first|r &3H|r &3M
 r wpAny_bind (wpAny_isOneOf_keyiter hit.typeIs ?_);show #A_ _(setField %4M 1 (rawInt ((i:Int)+1))>>= _)_ _;r &4Iho hd(by simp)?_
 h hit':(s.heap.update it (Obj.mapFields (·.setIfInBounds 1 (rawInt ((i:Int)+1))))).IsKeyIter it d (i+1) n ep:=
  ⟨_,&5I_ ho(&6zhd),(Obj.cls_mapFields ..).trans hc,by rw[Obj.data_mapFields hd];simp[rawInt]⟩
 r wpAny_bind (wpAny_holding ?_);r wpAny_bind (wpAny_isOneOf_keyiter (s:={s with heap:=s.heap.update it (Obj.mapFields (·.setIfInBounds 1 (rawInt ((i:Int)+1))))}) hit'.typeIs ?_);show wpAny _ _ (pure es[i].key) _ _ _;rw[hen];e wpAny_pure (&3P_ rfl(wpAny_pure (hQ _ hit' (Heap.SameBut.update ..))))
%tRv{it d:Addr}{i n ep:Nat}{od:Obj}{es:%4B}{Q:&f→Shared→Prop}(hh:A.handled=none)(hit:&0Fit d i n)(hod:%6X=&0Y)(hdd:od.data=%1Q)
 (hsz:es.size=n) (hge:n≤i) (hQ:∀h',Heap.ExtBut it s.heap h'→%5Tnone):#mw A&6E Q E s:=by
 o⟨o,ho,hc,hd⟩:=id hit;u pyNext
 r wpAny_bind (wpAny_attempt (wpAny_callSpecial?_slot (name:=&4s) hit.typeIs F.slot_dict_keyiterator_next
  (&4gF.slot_dict_keyiterator_next hit.typeIs F.entry_dict_keyiterator_next(F.args_dict_keyiterator_next_1 _))))
 r %5h;C;C
 first|r &3H|r &3M
 m3;j0;r %5h;l5;r %5h;r &6rhod hdd ?_;a0;r %0R;p5;C
 first|r &3H|r &3M
 show #A_ _(setField %4M 0 .none>>= _)_ _;w3;C;s[newExc,newTuple];o8;r &5N?_;s[raiseNew];v5;r %8X(wpAny_throw ?_);r wpAny_bind (wpAny_isInstance (T:="StopIteration") (b:=true) (%9d_^l) isSubtype_stop ?_);e wpAny_pure (hQ _ (((Heap.SameBut.update ..).extBut.push _).push _))
end
%tjS{κ:Type}{kvs:#P}{vs:%7V}(h:%3B):∀{i:Nat} {k:κ} {v:V},kvs[i]? =&5x→∃u,vs[i]? =some (k,u)∧%1p:=by
 u KV at h
 induction h with
 |nil=>intro i k v e;simp at e
 |@cons a b l₁ l₂ r t ih=>
  intro i k v e
  cases i with
  |zero=>
   s[List.getElem?_cons_zero,Option.some.injEq] at e;p;r⟨b.2,?_,r.2⟩;s[List.getElem?_cons_zero]
   e congrArg some (Prod.ext r.1.symm rfl)
  |succ j=>
   s[List.getElem?_cons_succ] at e ⊢;e ih e
%tbD{α β:Type}{G:α→β→Prop}{l₁:#y}{l₂:List β}(h:Paired G l₁ l₂):∀{i:Nat} {a:α},l₁[i]? =&1i→∃b,l₂[i]? =some b∧G a b:=by
 induction h with
 |nil=>intro i a e;simp at e
 |@cons a b l₁ l₂ r t ih=>
  intro i a' e
  cases i with
  |zero=>
   s[List.getElem?_cons_zero,Option.some.injEq] at e;p
   e⟨b,rfl,r⟩
  |succ j=>
   s[List.getElem?_cons_succ] at e ⊢;e ih e
%tZq{k:Key}{u:Value}(h:NQ k u=true):%4G%1b:=by
 rcases DC h with⟨i,t,rfl,rfl⟩|⟨x,t,rfl,rfl⟩
 ·e⟨t,rfl⟩
 ·e⟨t,rfl⟩
section
variable{X:Cx}{pins:List (Addr×Obj)}{σ:St}{H:Hp}{s:Shared}{d:Addr}{o:Obj}
%tInv.gp{kvs:#E}(I:%f)(h:%1X=^Go%3K):
 (d==sysModules)=false∧%6X=%b∧o.ExactDict∧∃(es:%4B) (ep:Nat) (vs:&3d),o.data=%1Q∧es.size=kvs.length∧%3B∧s.heap.DictAt (Ci X.prog X.w) d vs ep:=by
 o⟨hd,z,hs,vs,kv,o',es,ep,ho,hx,hdt,r⟩:=I.hok d _ h;rw[hd] at ho;c ho;r⟨hs,hd,hx,es,ep,vs,hdt,?_,kv,o,es,hd,hx,hdt,r⟩;h l1:=r.2.1.length;h l2:kvs.length=vs.length:=Paired.length kv;rw[Array.length_toList] at l1;b
%tInv.rK{kvs:%4A}(I:%f)(h:%1X=^Go&0E):
 (d==sysModules)=false∧%6X=%b∧o.ExactDict∧∃(es:%4B) (ep:Nat),o.data=%1Q∧es.size=kvs.length∧
   ∀(i:Nat) (k:%7p) (v:V),kvs[i]? =&5x→∃(en:DictEntry) (q:Addr),es[i]? =some en∧en.key=%8A∧H q=&2h:=by
 o⟨hd,z,hs,xs,pr,o',es,ep,ho,hx,hdt,he,_⟩:=I.hok d _ h;rw[hd] at ho;c ho;r⟨hs,hd,hx,es,ep,hdt,?_,λi k v e=>?_⟩
 ·h l1:es.size=xs.length:=size_of_entries he;h l2:kvs.length=xs.length:=Paired.length pr;b
 ·o⟨b,hb,e1,e2,_⟩:=bD pr e;h q:=entry_at he i;rw[hb] at q;e⟨_,b.2.1,q,rfl,e2⟩
end
%dItk(d:Addr)(o:Obj)(kvs:#E):It:=
 ⟨λi H=>%1X=^Go%3K∧i<kvs.length,λi H x H'=>H'=H∧∃k v,kvs[i]? =&5x∧x=%1b,λi H=>%1X=^Go%3K∧kvs.length≤i⟩
%duT(d:Addr)(o:Obj)(kvs:%4A):It:=
 ⟨λi H=>%1X=^Go&0E∧i<kvs.length,λi H x H'=>H'=H∧∃(k:%7p) (v:V) (q:Addr),kvs[i]? =&5x∧x=%8A∧H q=&2h,λi H=>%1X=^Go&0E∧kvs.length≤i⟩
%tOK{o:Obj}{es es':%4B}{ep ep':Nat}(h:o.data=%1Q)(h':o.data=.dict es' ep'):es'=es∧ep'=ep:=by
 rw[h] at h';c h';e⟨rfl,rfl⟩
section
variable{P:Program}{w:World}{K:PySem.W.Frag}{tg:Expr}{d:Addr}{o:Obj}{es:Array DictEntry}{ep:Nat}
%teE{kvs:#E}(it:Addr)(hod:o.data=%1Q):Turn P w K tg (Itk d o kvs) [it] it (λi h=>h.IsKeyIter it d i kvs.length ep) where
 mem:=by simp
 obj:=λi h st b hb=>by
  b6;x7
 keep:=λi h h' st k=>st.at λoi e=>%6vit oi e
 item:=by
  H;o⟨hd,hi⟩:=hg;N;f8;k2;u8;rw[hl] at st;r wpAny_pyNext_dict_item st hm hu λkey h' hkey st' sb=>?_;r9;r⟨key,rfl,Xd (s:={s with heap:=h'}) e c dd (by decide) ⟨%1b,H,I1,Zq (show NQ k key=true from hkey),⟨rfl,k,v,hkv,rfl⟩,?_,λb hb=>(hf b hb).1⟩⟩;show h'.IsKeyIter it d (i+1) kvs.length _;rw[hl];e st'
 done:=by
  H;o⟨hd,hi⟩:=hg;N;f8;r3
 self:=λA i s Q E st h=>wpAny_pyIter_keyiter st h
%taU{kvs:%4A}(it:Addr)(hod:o.data=%1Q):Turn P w K tg (uT d o kvs) [it] it (λi h=>h.IsKeyIter it d i kvs.length ep) where
 mem:=by simp
 obj:=λi h st b hb=>by
  b6;x7
 keep:=λi h h' st k=>st.at λoi e=>%6vit oi e
 item:=by
  H;o⟨hd,hi⟩:=hg;N;u2;k2;o⟨en,q,hen,hkey,hq⟩:=ent i k v hkv;r Wr st hgd hdt hsz hen λh' st' sb=>?_;r9;e⟨en.key,rfl,Xd (s:={s with heap:=h'}) e c dd (by decide) ⟨%8A,H,I1,hkey,⟨rfl,k,v,q,hkv,rfl,hq⟩,st',λb hb=>(hf b hb).1⟩⟩
 done:=by
  H;o⟨hd,hi⟩:=hg;N;u2;r3
 self:=λA i s Q E st h=>by
  r wpAny_pyIter_slot st.typeIs F.slot_dict_keyiterator_iter (&4gF.slot_dict_keyiterator_iter st.typeIs F.entry_dict_keyiterator_iter(F.args_dict_keyiterator_iter_1 _));show #A_ _(ret %4M)_ _;e wpAny_pure ⟨_,rfl,"dict_keyiterator",_,st.typeIs,F.slot_dict_keyiterator_next.lookup,h⟩
end
%duw(td:TE):TI:=λσ H R=>td σ H λx H1=>∃d o,x=^z∧((∃kvs,H1 d=^Go%3K∧R (Itk d o kvs) H1)∨∃kvs,H1 d=^Go&0E∧R (uT d o kvs) H1)
section
variable{X:Cx}{tg e:Expr}{td:TE}{apos cpos:Pos}
%tmR(he:%ke td):PI X tg e (uw td):=by
 Z;r thn (he pins s σ H _ I h) λu s1 ⟨x,H1,I1,rx,d,o,ex,q⟩=>?_;P;obtain rfl:u=Value.ref d:=rx;rcases q with⟨kvs,hd,q⟩|⟨kvs,hd,q⟩
 ·o⟨hs,hgd,hx,es,ep,vs,hdt,hsz,kv,hm⟩:=I1.gp hd;r S4 hs hgd hx hdt (Yg (tk:=s1.toks) I1 _ (eE _ hdt) ⟨_,^l,rfl,?_⟩ q);rw[hsz]<;>rfl
 ·o⟨hs,hgd,hx,es,ep,hdt,hsz,ent⟩:=I1.rK hd;r S4 hs hgd hx hdt (Yg (tk:=s1.toks) I1 _ (aU _ hdt) ⟨_,^l,rfl,?_⟩ q);rw[hsz]<;>rfl
end
%dIte(K:PySem.W.Frag)(a:Addr):It:=
 ⟨λi H=>∃(xs:%c) (x:V),SqL K H a xs∧xs[i]? =%v,λi H v H'=>∃T x,v=.ref T∧H T=none∧H'=%YT(%0a&0u x)∧∀xs,SqL K H a xs→xs[i]? =%v,λi H=>∃xs:%c,SqL K H a xs∧xs.length≤i⟩
%teF{P:Program}{w:World}{K:PySem.W.Frag}{elts:%0i}{kk:Nat}{tpos:Pos}(a e it:Addr):
 Turn P w K (.Tuple elts kk tpos) (Ite K a) [e,it] e (λi h=>(∃old,IsEnum h e it ((i:Nat):Int) old)∧h.IsListIter it a i∧e≠it) where
 mem:=by simp
 obj:=λi h st b hb=>by
  o⟨⟨old,he⟩,⟨o,ho,hc,hd⟩,_⟩:=st;h e':b=e∨b=it:=by simpa using hb
  rcases e' with z|z
  ·w;e⟨_,he,λv q=>nomatch q⟩
  ·w;e⟨o,ho,λv q=>by rw[hd] at q;c q⟩
 keep:=λi h h' st k=>let⟨⟨old,he⟩,hi,hne⟩:=st;⟨⟨old,%6ve _ he⟩,hi.at λo q=>%6vit o q,hne⟩
 item:=by
  H;o⟨⟨old,he⟩,hit,hne⟩:=st;o⟨xs,x,hq,hx⟩:=hg;h9;o⟨u,hu,ru⟩:=rv.get hx;h hel:e<s.heap.objs.size:=Heap.lt_size he;h hil:it<s.heap.objs.size:=by o⟨_,q,_⟩:=hit;e Heap.lt_size q
  r wpAny_pyNext_enum_item he hit p.isList (x:=u) (by simpa using hu) hne λh' ho hit' hT hsz hk=>?_;r⟨_,rfl,wpAny_letOwnedTupleGo_enum (s:={s with heap:=h',toks:=s.toks+1}) ho λh'' he' sb=>?_⟩;h hT2:h''.get? s.heap.objs.size=some {cls:=#M,data:=.seq #[.int i s.toks,u]}:=(sb.2 _ (Nat.ne_of_gt hel)).trans hT
  h new:C2 X.prog X.w (&2Y(%0a&0u x)) h'' s.heap.objs.size (%0a&0u x):=
   ⟨by show 2≤sizeLine;decide,[.int i s.toks,u],.cons %6x (%4Pru),⟨_,hT2,rfl,_,rfl⟩⟩
  h I1:&O(&2Y(%0a&0u x)){s with heap:=h'',toks:=s.toks+1}:=
   I.WE (ch:=[e,it]) (λb ob hb q=>(sb.2 b (λz=>hb (by simp[z]))).trans (hk b ob (λz=>hb (by simp[z])) (λz=>hb (by simp[z])) q)) hf %L new
  r⟨.ref s.heap.objs.size,_,I1,rfl,⟨_,x,rfl,%5f,rfl,λys hy=>by rw[I.Vt hy hq];e hx⟩,⟨⟨u,?_⟩,hit'.at λo q=>(sb.2 it (Ne.symm hne)).trans q,hne⟩,λb hb=>?_⟩
  ·h e1:((i+1:Nat):Int)=(i:Int)+1:=%w;A;e he'
  ·h hb':b<s.heap.objs.size:=by
    h e':b=e∨b=it:=by simpa using hb
    rcases e' with z|z
    ·w;e hel
    ·w;e hil
   rw[Ay (Nat.ne_of_lt hb')];e(hf b hb).1
 done:=by
  H;o⟨⟨old,he⟩,hit,hne⟩:=st;o⟨xs,hq,hx⟩:=hg;h9;N;h hl:=rv.length;e wpAny_pyNext_enum_end %3f he hit p.isList (by simp;omega) λh' eb=>⟨rfl,%5U(λb o hb q=>eb b o hb q)f0 f1 f3 f4 f5⟩
 self:=λA i s Q E st h=>let⟨⟨_,he⟩,_⟩:=st;wpAny_pyIter_enum he h
%dux(K:PySem.W.Frag)(ta:TA):TI:=λσ H R=>ta σ H λvs H1=>∃a xs,vs=[.ref a]∧SqL K H1 a xs∧R (Ite K a) H1
%tmS{X:Cx}{e:Expr}{ta:TA}{p pos tpos:Pos}{elts:%0i}{kk:Nat}(hg:Gl X "enumerate")(hm:X.mg "enumerate"=none)(ha:PA X [e] ta)(hs:%5Me=[(false,#u)]:=by rfl):
 PI X (.Tuple elts kk tpos) (%6H"enumerate"p [e]) (ux X.K ta):=by
 Z;r Call_ (Qc I hg hm boot_enumerate (PyProof.Rows.callWith_type1 (thn (ha pos pins s σ H _ I h) λus s1 ⟨vs,H1,I1,r1,q1⟩=>?_) hs rfl));o⟨a,xs,ex,hq,q⟩:=q1;P
 cases r1 with
 |cons r rr=>
  c rr;c r;o⟨its,rv,p',hz⟩:=I1.list hq;r call_enumerate_list p'.isList λh' he hit hsz hk=>wpAny_pyIter_enum he ?_;y3;r⟨s1.heap.objs.size+1,[s1.heap.objs.size+1,s1.heap.objs.size],_,_,H1,rfl,I2,eF a (s1.heap.objs.size+1) s1.heap.objs.size,⟨⟨.none,he⟩,hit,Nat.succ_ne_self _⟩,λb hb=>?_,q⟩;h e':b=s1.heap.objs.size+1∨b=s1.heap.objs.size:=by simpa using hb
  h hle:s1.heap.objs.size≤b:=by
   rcases e' with z|z
   ·w;e &1C_
   ·w;e %L
  e I1.bZ hle (I1.hok.fresh hle)
%tgJ:bootBuiltins "zip"=some (.type "zip"):=by decide+kernel
end L2
section
namespace Bits
open PySem PyProof.Rows
end Bits
end
section
namespace TL
open PySem PySem.Builtin PySem.Builtin.Str PySem.StrLaws
abbrev tl(x:Str):%r:=x.cps.toList
%tS1(x:Str):x.length=%0D.length:=by simp[tl,Str.length]
%tkj{x y:Str}(h:%0D=%0n):x=y:=Str.ext' (Array.toList_inj.mp h)
%tWH(x y:Str):tl (x++y)=%0D++%0n:=by
 show(x++y).cps.toList=_;rw[Str.cps_append,Array.toList_append]
%tpG(x:Str):(⟨%0D.toArray⟩:Str)=x:=kj rfl
%tVn:∀{l m:%u},l.map tl=m.map tl→l=m
 |[],[],_=>rfl
 |[],_::_,h=>by simp at h
 |_::_,[],h=>by simp at h
 |x::l,y::m,h=>by
  rw[List.map_cons,List.map_cons] at h;injection h with h1 h2
  rw[kj h1,Vn h2]
%dpre(S l:%r):Bool:=l.take S.length==S
%dspl(S:%r):Nat→%r→%r→List %r
 |_,acc,[]=>[acc]
 |0,acc,c::r=>if &0ZS=true then acc::spl S (S.length-1) [] r else spl S 0 (acc++[c]) r
 |k+1,acc,_::r=>spl S k acc r
%dpar(S:%r):%r→%r→Option (List Nat×%r)
 |_,[]=>none
 |acc,c::r=>if &0ZS=true then some (acc,(c::r).drop S.length) else par S (acc++[c]) r
%tUu(S:%r)(k:Nat)(acc:%r):spl S k acc []=[acc]:=by c k<;>rfl
%tcJ{S acc r:%r}{c:Nat}(h:&0ZS=true):spl S 0 acc (c::r)=acc::spl S (S.length-1) [] r:=by
 s8;rw[if_pos h]
%tZe{S acc r:%r}{c:Nat}(h:&0ZS=false):spl S 0 acc (c::r)=spl S 0 (acc++[c]) r:=by
 s8;rw[if_neg (by rw[h];e Bool.false_ne_true)]
%tZd(S:%r):∀(k:Nat) (acc l:%r),spl S k acc l=spl S 0 acc (l.drop k)
 |0,_,_=>by rw[List.drop_zero]
 |k+1,acc,[]=>by rw[List.drop_nil,Uu,Uu]
 |k+1,acc,c::r=>by
  show spl S k acc r=spl S 0 acc (r.drop k);e Zd S k acc r
%tmK{S:%r}(hS:S≠[]):pre S []=false:=by
 cases S with
 |nil=>e ^UhS
 |cons s S=>rfl
%tZv{s c:Nat}(S r:%r)(h:c≠s):&0Z(s::S)=false:=by
 cases hp:&0Z(s::S) with
 |false=>rfl
 |true=>
  have e:(c::r).take (s::S).length=s::S:=eq_of_beq hp;rw[List.length_cons,List.take_succ_cons] at e;injection e with e1 e2
  e absurd e1 h
%tRT{L:%r}{a:Nat}(h:a<L.length):∃c,L.drop a=c::L.drop (a+1):=⟨L[a],List.drop_eq_getElem_cons h⟩
%tXY(S L:%r):∀(m a:Nat) (acc:%r),a+m≤L.length→(∀k,a≤k→k<a+m→pre S (L.drop k)=false)→
 spl S 0 acc (L.drop a)=spl S 0 (acc++(L.drop a).take m) (L.drop (a+m))
 |0,a,acc,_,_=>by rw[List.take_zero,List.append_nil,Nat.add_zero]
 |m+1,a,acc,h,hn=>by
  h hlt:a<L.length:=%w;o⟨c,e⟩:=RT hlt;h h0:=hn a %L %w;h ih:=XY S L m (a+1) (acc++[c]) %w (λk h1 h2=>hn k %w %w);h e2:a+1+m=a+(m+1):=%w;rw[e2] at ih;rw[e] at h0;rw[e,Ze h0,ih,List.take_succ_cons,List.append_assoc]<;>rfl
%tkq(L:%r)(a b:Nat):(L.drop a).drop b=L.drop (a+b):=by
 first
  |rw[List.drop_drop]
  |rw[List.drop_drop,Nat.add_comm]
%tqf{S L:%r}(hS:S≠[]){c:Nat}{acc:%r}(h:pre S (L.drop c)=true):spl S 0 acc (L.drop c)=acc::spl S 0 [] (L.drop (c+S.length)):=by
 rw[←kq]
 cases e:L.drop c with
 |nil=>rw[e,mK hS] at h;c h
 |cons d r=>
  rw[e] at h;rw[cJ h,Zd]
  cases S with
  |nil=>e ^UhS
  |cons s S=>rfl
%tk6{x y:Str}(hy:%0n≠[])(i:Nat):At x y x.length i↔pre %0n (%0D.drop i)=true:=by
 h hx:=S1 x;h hl:=S1 y;a6
 ·intro h;h h2:=h.2;rw[subAt_eq,hl] at h2;e h2
 ·intro h;h e:(%0D.drop i).take %0n.length=%0n:=eq_of_beq h;h e1:=%8Ye;rw[List.length_take,List.length_drop] at e1;h e2:0<%0n.length:=List.length_pos_iff.mpr hy;r⟨%w,?_⟩;rw[subAt_eq,hl];e h
%tpD{x y:Str}(hy:%0n≠[]){i:Nat}(h:¬At x y x.length i):pre %0n (%0D.drop i)=false:=by
 cases hp:pre %0n (%0D.drop i) with
 |false=>rfl
 |true=>e absurd ((k6 hy i).mpr hp) h
%tNO{y:Str}(hy:%0n≠[]):1≤y.length:=by
 h e2:0<%0n.length:=List.length_pos_iff.mpr hy;rw[S1 y];e e2
%tWG(x:Str)(i j:Nat):tl (strSub x i j)=(%0D.drop i).take (j-i):=strSub_toList x i j
%tVZ(x:Str)(i:Nat):tl (strSub x i x.length)=%0D.drop i:=by
 rw[WG,S1 x];e List.take_of_length_le (by rw[List.length_drop]<;>omega)
%tWT{x y:Str}(hy:%0n≠[]):∀(cuts:%r) (a f:Nat),a≤%0D.length→ChainG x y x.length a cuts f→(∀k,f≤k→¬At x y x.length k)→
 (partsFrom x y.length a cuts).map tl=spl %0n 0 [] (%0D.drop a)
 |[],a,f,ha,h,hn=>by
  h e:f=a:=h;p;show[tl (strSub x f x.length)]=_;h run:=XY %0n %0D (%0D.length-f) f [] %w (λk h1 _=>pD hy (hn k h1));h e2:f+(%0D.length-f)=%0D.length:=%w;rw[e2,List.drop_length,Uu,List.nil_append,List.take_of_length_le (by rw[List.length_drop]<;>omega)] at run
  rw[run,VZ]
 |c::r,a,f,ha,h,hn=>by
  o⟨h1,h2,h3,h4⟩:=h;h hc:c+y.length≤x.length:=h2.1;h hx:=S1 x;h hl:=S1 y;h ih:=WT hy r (c+y.length) f %w h4 hn;show tl (strSub x a c)::(partsFrom x y.length (c+y.length) r).map tl=_;h run:=XY %0n %0D (c-a) a [] %w (λk k1 k2=>pD hy (h3 k k1 %w));h e2:a+(c-a)=c:=%w;rw[e2,List.nil_append,qf hy ((k6 hy c).mp h2)] at run;rw[run,ih,WG,hl]
%teL(x y:Str)(hy:%0n≠[])(hk:¬Builtin.Str.strKind x<&5Z):(Txt.split x y).map tl=spl %0n 0 [] %0D:=by
 o⟨f,g,hn⟩:=occ_tight x y (NO hy);h key:=WT hy _ 0 f #q g hn;rw[List.drop_zero] at key
 h none_case:occurrences x y 0 x.length (x.length+1)=[]→[x].map tl=spl %0n 0 [] %0D:=λho=>by
  rw[ho] at key;rw[←key];show[tl x]=[tl (strSub x 0 x.length)];rw[sub_whole]
 u Txt.split;by_cases h1:(decide (x.length<y.length)||decide (Builtin.Str.strKind x<&5Z))=true
 ·rw[if_pos h1]
  h hlt:x.length<y.length:=by
   s[Bool.or_eq_true,decide_eq_true_eq] at h1;rcases h1 with h|h
   ·e h
   ·e absurd h hk
  r none_case ?_
  cases ho:occurrences x y 0 x.length (x.length+1) with
  |nil=>rfl
  |cons c r=>
   rw[ho] at g;h hc:c+y.length≤x.length:=g.2.1.1;b
 ·rw[if_neg h1];by_cases h2:(occurrences x y 0 x.length (x.length+1)).isEmpty=true
  ·rw[if_pos h2];e none_case (List.isEmpty_iff.mp h2)
  ·rw[if_neg h2,partsBetween_eq];e key
%tnF{x y:Str}(h:y.cps.all (·<256)=true):¬Builtin.Str.strKind x<&5Z:=by
 h e:&5Z=1:=by u PySem.Builtin.Str.strKind;rw[if_pos h]
 t;u PySem.Builtin.Str.strKind;B
 ·b
 ·split<;>omega
%dZX(S:%r):List %r→List Nat
 |[]=>[]
 |[p]=>p
 |p::q::r=>p++(S++ZX S (q::r))
%tcF(y:Str):∀parts:%u,tl (Str.join y parts)=ZX %0n (parts.map tl)
 |[]=>rfl
 |[_]=>rfl
 |x::z::r=>by
  show tl (x++y++Str.join y (z::r))=%0D++(tl y++ZX %0n ((z::r).map tl));rw[WH,WH,cF y (z::r),List.append_assoc]
%tjoin_eq(y:Str)(parts:%u):Txt.join y parts=Str.join y parts:=glued_eq_join y parts
end TL
end
namespace L2
open PySem PySem.Spec PyProof.Rows
%tWA:∀l:List (Str×Tok),Vals ((l.map (·.1)).map V.str) (strValues l)
 |[]=>.nil
 |p::r=>.cons (%5Vp.2) (WA r)
%tLV:∀{ys:%u} {us:%o},%4I&0v→StrsAre us ys
 |[],_,.nil=>.nil
 |y::ys,_,%5It=>by
  o⟨k,rfl⟩:=r;e .cons y k (LV t)
%dU2(ys:%u):Hp→VK→Prop:=λH Q=>∀p,%0q=none→%1S(^VH p&0v)
section
variable{X:Cx}{pins:List (Addr×Obj)}{σ:St}{H:Hp}{s:Shared}{Q:VK}
%tS3{l:List (Str×Tok)}{ys:%u}{k:Nat}(I:%f)(e:l.map (·.1)=ys)(hz:ys.length≤sizeLine)(h:U2 ys H Q):
 EP X pins σ Q %6R {s with toks:=k,heap:=s.heap.push {cls:=%0c,data:=.seq (strValues l).toArray}}:=by
 h hp:=%5f;r⟨.ref s.heap.objs.size,^VH s.heap.objs.size&0v,I.laid (λb u q=>%6y) %L ⟨by rw[List.length_map];e hz,strValues l,_,?_,^l⟩,rfl,h _ hp⟩;rw[←e];e WA l
end
section
variable{X:Cx}
%tjL:MtR X "str.split" (λx xs H Q=>∃a b,x=%0j∧xs=[.str b]∧(b.length==0)=false∧a.length+2≤sizeLine∧U2 (Txt.split a b) H Q):=by
 g4;o⟨a,b,rfl,rfl,hb,hz,h⟩:=h;x
 cases rs with
 |cons r1 rs=>
  c rs;o⟨u,rfl⟩:=r1;h hl:(Txt.split a b).length≤sizeLine:=Nat.le_trans (PyProof.Rows.split_le a b) hz
  h hn:(Builtin.Str.partsBetween a (Builtin.Str.occurrences a b 0 a.length (a.length+1)) b.length).length≤sizeLine:=by
   h e1:=StrLaws.occ_length_le a b 0 a.length (a.length+1);rw[length_partsBetween];b
  cases h1:(decide (a.length<b.length)||decide (Builtin.Str.strKind a<Builtin.Str.strKind b))
  ·cases hf:(Builtin.Str.occurrences a b 0 a.length (a.length+1)).isEmpty
   ·r call_meets F.slot_str_split (typeIs_str _ _ _) F.entry_str_split (F.args_str_split_2 _ _) (meets_str_split_sep a b t u h1 hb hf %w hn) ?_;show EP X pins σ Q %6R {s with toks:=_,heap:=s.heap.push {cls:=%0c,data:=.seq (strsFrom s.toks (Builtin.Str.partsBetween a (Builtin.Str.occurrences a b 0 a.length (a.length+1)) b.length)).toArray}};rw[strsFrom_eq];e S3 (ys:=Txt.split a b) I ((numbered_texts _ _).trans ((if_neg (ne_true_of_eq_false h1)).trans (if_neg (ne_true_of_eq_false hf))).symm) hl h
   ·r call_meets F.slot_str_split (typeIs_str _ _ _) F.entry_str_split (F.args_str_split_2 _ _) (meets_str_split_not_found a b t u h1 hb hf) ?_;e S3 (l:=[(a,t)]) (ys:=Txt.split a b) (k:=s.toks) I ((if_neg (ne_true_of_eq_false h1)).trans (if_pos hf)).symm hl h
  ·r call_meets F.slot_str_split (typeIs_str _ _ _) F.entry_str_split (F.args_str_split_2 _ _) (meets_str_split_cannot_occur a b t u h1) ?_;e S3 (l:=[(a,t)]) (ys:=Txt.split a b) (k:=s.toks) I (if_pos h1).symm hl h
%tnA:MtR X "str.join" (λx xs H Q=>∃a p,∃ys:%u,x=%0j∧xs=[.ref p]∧(SqL X.K H p &0v∨SqT X.K H p &0v)∧
 (ys.map (·.length)).sum+ys.length*a.length≤16777216∧Q (.str (Txt.join a ys)) H):=by
 g4;o⟨a,p,ys,rfl,rfl,hp,hz,h⟩:=h;x
 cases rs with
 |cons r1 rs=>
  c rs;c r1;rcases hp with hp|hp
  ·o⟨its,r,⟨o,n,ho,hc,_,hd⟩,_⟩:=I.list hp;e PyProof.Rows.join_list (items:=its.toArray) ⟨o,ho,hc,n,hd⟩ (by rw[List.toList_toArray];e LV r) hz λt' k=>⟨.str _,H,I.tok k,⟨t',rfl⟩,h⟩
  ·o⟨its,r,ht,_⟩:=I.tuple hp;e PyProof.Rows.join_tuple (items:=its.toArray) ht (by rw[List.toList_toArray];e LV r) hz λt' k=>⟨.str _,H,I.tok k,⟨t',rfl⟩,h⟩
%tmt0{id:String}{C:Str→Prop}{g:Str→V}(rule:∀(a:Str) (t:Tok) (s:Shared) (Q:Value→Shared→Prop),C a→(∀(u:Value) (k:Nat),%4G(g a)→Q u {s with toks:=k})→
 #i(call %6T [.str a t])Q):MtR X id (λx xs H Q=>∃a,x=%0j∧xs=[]∧C a∧Q (g a) H):=by
 g4;o⟨a,rfl,rfl,hc,h⟩:=h;x;c rs;e rule a t s _ hc λu k r=>⟨g a,H,I.tok k,r,h⟩
%tP8:MtR X "str.isdigit" (λx xs H Q=>∃a,x=%0j∧xs=[]∧True∧^N(Txt.isdigit a)H):=
 mt0 (C:=λ_=>True) (g:=λa=>.bl (Txt.isdigit a)) λ_ _ s _ _ h=>PySem.SC.isdigit (h _ s.toks rfl)
%tmt1{id:String}{g:Str→Str→V}(rule:∀(a b:Str) (t u:Tok) (s:Shared) (Q:Value→Shared→Prop),(∀(v:Value) (k:Nat),RelV (g a b) v→Q v {s with toks:=k})→
 #i(call %6T [.str a t,.str b u])Q):MtR X id (λx xs H Q=>∃a b,x=%0j∧xs=[.str b]∧Q (g a b) H):=by
 g4;o⟨a,b,rfl,rfl,h⟩:=h;x
 cases rs with
 |cons r1 rs=>
  c rs;o⟨u,rfl⟩:=r1;e rule a b t u s _ λv k r=>⟨g a b,H,I.tok k,r,h⟩
%tKu:MtR X "str.startswith" (λx xs H Q=>∃a b,x=%0j∧xs=[.str b]∧^N(Txt.startswith a b)H):=
 mt1 (g:=λa b=>.bl (Txt.startswith a b)) λ_ _ _ _ s _ h=>PySem.SC.startswith (h _ s.toks rfl)
%tYR:Hq X (.type "int") (λxs H Q=>∃a n,xs=[.str a]∧PySem.intText? a=%9Y∧a.length≤640∧%4on H):=by
 intro pins s σ H xs us Q I rs h;o⟨a,n,rfl,hn,hl,h⟩:=h
 cases rs with
 |cons r1 rs=>
  c rs;o⟨t,rfl⟩:=r1;e PySem.W.KIN.call_text hn hl (%6C(.int n)H%6x h)
end
section
variable{X:Cx}{o e:Expr}{to te:TE}
%dtM0(r:V→%c→Hp→VK→Prop)(to:TE):TE:=λσ H Q=>to σ H λx H1=>(∃a,x=%0j)∧r x [] H1 Q
%dtM1(r:V→%c→Hp→VK→Prop)(to te:TE):TE:=λσ H Q=>to σ H λx H1=>(∃a,x=%0j)∧te σ H1 λy H2=>r x [y] H2 Q
%tt7{id:String}{name:Str}{apos pos:Pos}{r:V→%c→Hp→VK→Prop}(slot:Slot "str" name id)(ty:&3k=&3v)(rule:MtR X id r)(ho:%ko to)
 (hbase:%4Co name%0M=%0M:=by rfl) (hline:(apos.endLine==pos.line)=true:=by rfl):%k(^Yo name []pos)(tM0 r to):=by
 j;r PySem.Call_method0 hbase hline (thn (ho pins s σ H _ I h) λv s1 ⟨x,H1,I1,r1,q1⟩=>?_);o⟨⟨a,rfl⟩,q1⟩:=q1;o⟨t,rfl⟩:=_root_.id r1;e⟨"str",_,F.plainAttrs_str,slot,ty,typeIs_str _ _ _,(λ_ e=>nomatch e),Calls.callWith_builtin rfl (PySem.evalArgs_none (rule pins s1 σ H1 _ [] _ [] Q I1 r1 .nil q1))⟩
%tt6{id:String}{name:Str}{apos pos:Pos}{r:V→%c→Hp→VK→Prop}(slot:Slot "str" name id)(ty:&3k=&3v)(rule:MtR X id r)(ho:%ko to)(he:%ke te)
 (hs:%5Me=[(false,#u)]:=by rfl) (hbase:%4Co name%0M=%0M:=by rfl) (hline:(apos.endLine==pos.line)=true:=by rfl):
 %k(^Yo name [e]pos)(tM1 r to te):=by
 j;r PySem.Call_method1 hbase hs hline (thn (ho pins s σ H _ I h) λv s1 ⟨x,H1,I1,r1,q1⟩=>?_);o⟨⟨a,rfl⟩,q1⟩:=q1;o⟨t,rfl⟩:=_root_.id r1;r⟨"str",_,F.plainAttrs_str,slot,ty,typeIs_str _ _ _,(λ_ e=>nomatch e),Calls.callWith_builtin rfl (Calls.evalArgs_plain (Calls.spliced_cons ?_))⟩;e thn (he pins s1 σ H1 _ I1 q1) λu s2 ⟨y,H2,I2,r2,q2⟩=>Calls.spliced_nil (rule pins s2 σ H2 _ [y] _ [u] Q I2 r1 (%4Pr2) q2)
end
end L2
namespace L2
open PySem PySem.Spec PyProof.Rows
section
variable{X:Cx}
%tbE:%3eX .In(λx y H Q=>∃(c:Nat) (z:Str),x=%9k∧y=&1c∧^N(decide (c∈z.cps.toList))H):=by
 M;o⟨c,z,rfl,rfl,q⟩:=h;x;a3;e PyProof.Rows.in_str (Ce I q (PySem.StrLaws.found_one z c).symm)
%tWg:%3eX .NotIn(λx y H Q=>∃(c:Nat) (z:Str),x=%9k∧y=&1c∧^N(!decide (c∈z.cps.toList))H):=by
 M;o⟨c,z,rfl,rfl,q⟩:=h;x;a3;e PyProof.Rows.notIn_str (Ce I q (congrArg Bool.not (PySem.StrLaws.found_one z c).symm))
end
%tIsPart.raw{v:Value}{o:%S}(p:IsPart v o):∃l:Option (Int×Tok),v=partValue l∧l.map (·.1)=o:=by
 cases p with
 |none=>e⟨none,rfl,rfl⟩
 |int i t=>e⟨some (i,t),rfl,rfl⟩
%daB(n d:Nat):%S→Int
 |none=>(d:Int)
 |some i=>max 0 (min (if i<0 then i+(n:Int) else i) (n:Int))
%taA(n d:Nat)(o:%S):aB n d o=((HT.sIx n d o:Nat):Int):=by
 cases o with
 |none=>rfl
 |some v=>
  show max (0:Int) (min (if v<0 then v+(n:Int) else v) (n:Int))=(((if v<0 then(v+(n:Int)).toNat else min v.toNat n):Nat):Int);by_cases hv:v<0
  ·s[if_pos hv];b
  ·s[if_neg hv];b
%teR(a b:%S)(n:Nat):&1qa b n=sliceRange (aB n 0 a) (aB n n b) 1:=by
 h h1:((1:Int)>0)=True:=by simp
 c a<;>c b<;>first
  |rfl
  |(s[Builtin.Str.strSliceIndices,aB,h1,if_true];rfl)
  |simp[Builtin.Str.strSliceIndices,aB]
%tvg(a b:%S)(n:Nat):&1qa b n=(List.range (HT.sIx n n b-HT.sIx n 0 a)).map (λk=>HT.sIx n 0 a+k):=by
 rw[eR,aA,aA];generalize HT.sIx n 0 a=p;generalize HT.sIx n n b=q;s[sliceRange,show((1:Int)>0)=True from by simp,if_true];by_cases hlt:(p:Int)<q
 ·h e3:(((q:Int)-p+1-1)/1).toNat=q-p:=by first|omega|(simp;done)|(simp;omega)
  s[hlt,if_true,e3];r List.map_congr_left λk _=>?_;b
 ·h:q-p=0:=%w;simp[hlt,this]
%dkN(z:Str)(lo hi:%S):Str:=
 ⟨((z.cps.toList.drop (%4y0 lo)).take (HT.sIx z.length z.length hi-%4y0 lo)).toArray⟩
%tO6(z:Str)(lo hi:%S):&6slo hi=kN z lo hi:=by
 h h1:%4y0 lo≤z.length:=HT.bp _ _ #q _;h h2:&2jhi≤z.length:=HT.bp _ _ %L _;h hp:%4y0 lo≤max (%4y0 lo) (&2jhi):=Nat.le_max_left _ _;h hq:max (%4y0 lo) (&2jhi)≤z.length:=Nat.max_le.mpr ⟨h1,h2⟩;h hd:max (%4y0 lo) (&2jhi)-%4y0 lo=&2jhi-%4y0 lo:=%w
 h e:&1qlo hi z.length=
  &1q(some ((HT.sIx z.length 0 lo:Nat):Int))(some ((max (%4y0 lo) (&2jhi):Nat):Int))z.length:=by
  rw[PySem.StrLaws.strSliceIndices_plain hp hq,hd,vg]
 h e2:&6slo hi=
  &6s(some ((HT.sIx z.length 0 lo:Nat):Int))(some ((max (%4y0 lo) (&2jhi):Nat):Int)):=by
  u PySem.StrLaws.sliceText;t
 rw[e2,PySem.StrLaws.sliceText_nat z hp hq,hd];a
%taz(z:Str)(lo hi:%S):(kN z lo hi).length≤z.length:=by
 show(((z.cps.toList.drop (%4y0 lo)).take (HT.sIx z.length z.length hi-%4y0 lo)).toArray).size≤z.cps.size;t2
%dtO:V→%S→%S→Hp→VK→Prop:=λx lo hi H Q=>∃z,x=&1c∧z.length≤sizeLine∧Q (.str (kN z lo hi)) H
%tiD{X:Cx}:SlR X tO:=by
 k8;o⟨z,rfl,hz,q⟩:=h;x;o⟨os,hos,hcs,hds⟩:=hs;o⟨l,rfl,rfl⟩:=IsPart.raw pl;o⟨u,rfl,rfl⟩:=IsPart.raw pu;r⟨"str",_,F.slot_str_getitem.lookup,typeIs_str _ _ _,?_⟩;r wpAny_getItem_str_slice (l:=l) (u:=u) (st:=none) ⟨os,hos,hcs,hds⟩ rfl ?_
 h hl:(&6s(l.map (·.1))(u.map (·.1))).length≤sizeLine:=by
  rw[O6];e Nat.le_trans (az z _ _) hz
 rw[←O6] at q;u PySem.StrLaws.sliceText at q hl
 show Made.post (if((1:Int)==1&&(&1q(l.map (·.1))(u.map (·.1))z.length).length==z.length)=true then Made.val (.str z t)
  else Made.str ⟨((&1q(l.map (·.1))(u.map (·.1))z.length).filterMap (z.cps[·]?)).toArray⟩) (EP X pins σ Q) s
 by_cases c:((1:Int)==1&&(&1q(l.map (·.1))(u.map (·.1))z.length).length==z.length)=true
 ·rw[if_pos c] at q ⊢;e⟨.str z,H,I,⟨t,rfl⟩,q⟩
 ·rw[if_neg c] at q hl ⊢;e⟨hl,.str _,H,%1B,⟨_,rfl⟩,q⟩
end L2
namespace Att
open PySem PySem.W PySem.Calls PyProof.Rows
section
variable{prog:Program}{w:World}{A:Around}{E:Value→Shared→Prop}{s:Shared}{K:Frag}
end
end Att
namespace L2
open PySem PySem.Spec PyProof.Rows
end L2
namespace L2
open PySem PySem.Spec PyProof.Rows
end L2
namespace L2
open PySem PySem.Spec PyProof.Rows
%dinClass(s:Stmt)(j:Nat):Stmt:=match s with
 |.ClassDef _ _ _ body _ _ _ _ _ _ _=>body.getD j (.Pass ⟨0,0,0,0⟩)
 |_=>.Pass ⟨0,0,0,0⟩
%dOL(s:Stmt):Arguments:=match s with
 |.FunctionDef _ a _ _ _ _ _ _ _ _=>a
 |_=>{posonlyargs:=[],args:=[],vararg:=none,kwonlyargs:=[],kw_defaults:=[],kwarg:=none,defaults:=[]}
%dFg(s:Stmt):%0V:=match s with
 |.FunctionDef _ _ b _ _ _ _ _ _ _=>b
 |_=>[]
%dAh(s:Stmt):Scope:=match s with
 |.FunctionDef _ _ _ _ _ _ sc _ _ _=>sc
 |_=>{kind:=.function,names:=[],isGenerator:=false,isCoroutine:=false}
abbrev CX0:CXT:=λ_ _ _ _ _ _=>False
abbrev E0:XK:=λ_ _ _=>False
structure Fun(K:PySem.W.Frag)(x qual:Str)(st:Stmt)(f:Addr)(fd:FuncData):Prop where
 ex:∃(oc:Value) (od:%0v) (kV doc pm:Value) (an:%0v) (cdv ct:Value) (osl:&3n),
  fd=PySem.W.fnOf x qual (OL st) %4V #e .none kV doc pm an cdv ct∧K.lookup f=some ⟨oc,od,.func fd,osl⟩∧PySem.W.codeIn K cdv qual=true
 kp:%1iK f=true
section
variable{P:Program}{w:World}{K:PySem.W.Frag}{mg:Str→Option Value}{base:Heap}
%tFun.ok{x qual:Str}{st:Stmt}{f:Addr}{fd:FuncData}{N ps:%u}{k:Nat}{sp:Sp}(F:Fun K x qual st f fd)(S:%yN ps st)(len:∀vs H Q E,sp vs H Q E→vs.length=ps.length)
 (hbody:∀(cdv:Value) (A:Around) (outer:^y) (s:Shared) (H:Hp) (vs:%c) (Q:VK) (E:XK),D3 k (%7mqual#e f cdv)→sp vs H Q E→
   ∃t,PSs (KH CX0 P w K mg base N qual #e f cdv A outer s H E).nox %4V t∧t {nx:=λ_ H'=>Q .non H',rt:=Q} %6F H):BC P w K mg base CX0 (k+1) f fd ps sp:=by
 d8;r pK lk hcd S len λA outer s H vs Q E hr hsp=>?_;o⟨t,h,q⟩:=hbody cdv A outer s H vs Q E hr hsp;e⟨t,h.nox,q⟩
%tFun.binds{x qual:Str}{st:Stmt}{f:Addr}{fd:FuncData}{ps:%u}(F:Fun K x qual st f fd)
 (h:∀(kV doc pm:Value) (an:%0v) (cdv ct:Value) (us:%o),us.length=ps.length→bindArgs (PySem.W.fnOf x qual (OL st) %4V #e .none kV doc pm an cdv ct) %9R=pure %3P):Binds K fd ps []:=by
 d8;e .all (h kV doc pm an cdv ct)
%tj7{x qual:Str}{st:Stmt}{f:Addr}{oc:Value}{od an:%0v}{osl:&3n}{kV doc pm cdv ct:Value}(l:K.lookup f=some ⟨oc,od,.func (PySem.W.fnOf x qual (OL st) %4V #e .none kV doc pm an cdv ct),osl⟩)
 (c:PySem.W.codeIn K cdv qual=true) (k:%1iK f=true):Fun K x qual st f (PySem.W.fnOf x qual (OL st) %4V #e .none kV doc pm an cdv ct):=⟨⟨oc,od,kV,doc,pm,an,cdv,ct,osl,rfl,l,c⟩,k⟩
end
%tCj{A:Around}{k:Nat}(hr:D3 k A):A.units+1<cLine:=Nat.lt_of_le_of_lt (Nat.add_le_add_left (by decide:1≤64) _) hr.units
%teN{n:Nat}(h:n≤1000):n<sizeLine:=%3ah
section
variable{X:Cx}
%tpv(i:Nat){x:Str}{pos:Pos}(hN:X.N[i]? =%v:=by rfl)(hv:&5kx:=by first|e &D|e Or.inr &D|e Or.inr &3z)(hd:(x==("__debug__":Str))=false:=by decide)
 (hcd:(x==("__classdict__":Str))=false:=by decide):%k%9C(lR i):=SJ hN hv hd hcd
%tgI:Hq X &4C (λxs H Q=>∃a kvs,xs=[V.ref a]∧&Q=%5p∧%4okvs.length H):=by
 b7;o⟨a,kvs,rfl,ha,q⟩:=h;o⟨u,rfl,ru⟩:=vals1 r;c ru;e uH I (.inl ha) λt s' I'=>⟨.int kvs.length,H,I',⟨t,rfl⟩,q⟩
end
%dFC(H H':Hp):Prop:=∀b o,%O=%b→%0C=%b
%tFC.refl(H:Hp):FC H H:=λ_ _ h=>h
%tFC.trans{H H1 H2:Hp}(a:FC H H1)(b:FC H1 H2):FC H H2:=λc o h=>b c o (a c o h)
%tFC.free{H H':Hp}(e:FC H H'){l:Addr}(h:H' l=Option.none):H l=Option.none:=by
 cases q:H l with
 |none=>rfl
 |some o=>
  rw[e l o q] at h;c h
%tFC.seq{K:PySem.W.Frag}{H H':Hp}{a:Addr}{xs:%c}(e:FC H H')(h:SqL K H a xs):SqL K H' a xs:=by
 n7
 ·e .inl (.inl (e _ _ h))
 ·e .inl (%4No(e _ _ h))
 ·e .inr h
section
variable{κ:Type} [DecidableEq κ]
end
%tFC.made{H H1:Hp}{x dx C:Addr}(nx:H x=Option.none)(nd:H dx=Option.none)(k:∀b o,(upd (%Ydx(.own x)) x (.ins C dx [])) b=%b→b≠x→H1 b=%b):FC H H1:=λb o e=>
 k b o (by rw[Ay (AN e nx),Ay (AN e nd)];e e) (AN e nx)
end L2
namespace L2
open PySem PySem.Spec PyProof.Rows
open Builtin Builtin.ObjectAttr
abbrev bmV:%o:=[.type "ValueError",.type "Exception",&2L,.type "object"]
%tjO:&4p"kind"=%8g:=by rw[typeLookup_type,builtinLookup_eq_fast];kernel_rfl
%tbP:&4p"number"=%8g:=by rw[typeLookup_type,builtinLookup_eq_fast];kernel_rfl
%tfX:&4p"place"=%8g:=by rw[typeLookup_type,builtinLookup_eq_fast];kernel_rfl
section
variable{prog:Program}{w:World}{A:Around}{E:Value→Shared→Prop}{h:Heap}{g:Array GenState}{d:Drawn}{t:Nat}{os:OsState}
variable{nm q:Str}{C N x:Addr}{bs:List Value}{sn:List Str}{sub:List Value}{ab:Bool}{col:Option Bool}{dd:Option Addr}{k0 k1 k2 k3 k5:Option Value}
 {mN mA:Str→Option Value} {name:Str} {v:Value}
%tY0{tk:Tok}{Q:Fin→Shared→Prop}
 (hC:&0P=some (excClassObj nm q C N bs bmV true sn sub ab col dd k0 k1 k2 k3 k5 "ValueError.__new__")) (hn:h.Ns N mN) (hna:mN name=none)
 (hB:&4e=%8g) (I:h.Inst x C mA) (hv:&2q=%W) (hq:Q (.done (.ret v)) (%1vh g d t)):
 #mw A(Builtin.«object.__getattribute__» ⟨[.ref x,.str name tk],[]⟩)Q E(%1vh g d t):=by
 h hm:=F.excBase_ValueError.mroIs;o⟨o,hx,hc,hnc,hd⟩:=I;rcases hd with⟨_,hmA⟩|⟨dx,hdx,hne,hns⟩
 ·rw[hmA name] at hv;c hv
 u Builtin.«object.__getattribute__»
 repeat (first|(with_reducible r %5ghx;rw[hc])|(with_reducible r &5mhn hm hB ?_;rw[hna])|wp_step)
 B
 ·rename_i c hcd;e absurd hcd (hnc c)
 u instanceDict
 repeat (first|(with_reducible r %5ghx;rw[hc])|with_reducible r %5ghC|wp_step)
 rw[hdx]
 repeat (first|(with_reducible r wpAny_nsGet hns.ns ?_;rw[hv])|wp_step)
 e hq
end
section
variable{prog:Program}{w:World}{A:Around}{E:Value→Shared→Prop}{h:Heap}{g:Array GenState}{d:Drawn}{t:Nat}{os:OsState}
variable{nm q:Str}{C N x:Addr}{bs:List Value}{sn:List Str}{sub:List Value}{ab:Bool}{col:Option Bool}{dd:Option Addr}{k0 k1 k2 k3 k5:Option Value}
 {mN mA:Str→Option Value} {name:Str} {v:Value}
%td9{M:Model}{o:Obj}{nameV:Value}{Q:Unit→Shared→Prop}
 (hC:&0P=some (excClassObj nm q C N bs bmV true sn sub ab col dd k0 k1 k2 k3 k5 "ValueError.__new__"))
 (hx:h.get? x=%b) (hc:o.cls=^d) (hq:Q () (%1vh g d t)):wpAny M A (checkBuiltinCall "BaseException.__getattribute__" ⟨[%3s,nameV],[]⟩) Q E (%1vh g d t):=by
 h hk:builtinKind "BaseException.__getattribute__"=some .slot:=by decide+kernel
 h hsplit:splitId "BaseException.__getattribute__"=some ("BaseException","__getattribute__"):=by decide+kernel
 h hcB:(Value.ref C::bmV).contains &2L=true:=by rw[List.contains_cons];simp
 h ha:=F.args_bexc_ga %3s nameV;s[checkBuiltinCall,hk,hsplit];C;u isInstance
 repeat (first|(with_reducible r %5ghx;rw[hc])|(with_reducible r &6ohC;rw[hcB])|wp_step)
 e hq
%thU{tk:Tok}{fill expr:Bool}{Q:Value→Shared→Prop}
 (hC:&0P=some (excClassObj nm q C N bs bmV true sn sub ab col dd k0 k1 k2 k3 k5 "ValueError.__new__")) (hn:h.Ns N mN) (hng:mN "__getattribute__"=none) (hnh:mN "__getattr__"=none) (hna:mN name=none)
 (hB:&4e=%8g) (I:h.Inst x C mA) (hv:&2q=%W) (hh:handedOut v=pure v) (hq:Q v (%1vh g d t)):
 #mw A(getAttrBy %3s (.str name tk) fill expr)Q E(%1vh g d t):=by
 h FB:=F.attrBase_ValueError;h f3:=FB.ga.bind %3s;h hx0:(expr&&onTheHeap (Value.builtin "BaseException.__getattribute__"))=false:=by c expr<;>rfl
 h hx2:(Value.builtin "BaseException.__getattribute__"==Value.builtin "object.__getattribute__")=false:=by decide+kernel
 h hx1:(onTheHeap (Value.ref C)&&Value.builtin "BaseException.__getattribute__"==Value.builtin "object.__getattribute__")=false:=by rw[hx2];rfl
 o⟨o,hx,hc,_⟩:=id I
 repeat (any_goals (first|assumption|(with_reducible r %5ghx;rw[hc])|(with_reducible r &5mhn FB.mro FB.ga.lookup ?_;rw[hng])|(with_reducible r &5mhn FB.mro FB.noGetattr ?_;rw[hnh])|wp_step))
 r codeAny_call_builtin FB.ga.plain F.entry_bexc_ga (d9 hC hx hc (Y0 hC hn hna hB I hv ?_))
 repeat (any_goals (first|assumption|(rw[hh])|wp_step))
%tsM{expr:Bool}{Q:Value→Shared→Prop}
 (hC:&0P=some (excClassObj nm q C N bs bmV true sn sub ab col dd k0 k1 k2 k3 k5 "ValueError.__new__")) (hn:h.Ns N mN) (hng:mN "__getattribute__"=none) (hnh:mN "__getattr__"=none) (hna:mN name=none)
 (hB:&4e=%8g) (I:h.Inst x C mA) (hv:&2q=%W) (hh:handedOut v=pure v) (hq:Q v (%1vh g d(t+1))):
 #mw A(getAttr %3s name expr)Q E(%1vh g d t):=by
 u getAttr
 repeat (any_goals (first|assumption|with_reducible apply hU hC hn hng hnh hna hB I hv hh|wp_step))
end
end L2
namespace L2
open PySem PySem.Spec PyProof.Rows
%tVN(o:Obj)(f):(o.mapFields f).dict=o.dict:=by
 o⟨c,d,dt,sl⟩:=o;c dt<;>rfl
class NC where
 nc:Addr→Prop
variable [NC]
%dXOb(h:Heap)(e C d:Addr)(vs:%0G):Prop:=∃oe,h.get? e=some oe∧oe.cls=^d∧oe.dict=%0z∧oe.data=&3E∧(NC.nc C→vs[2]? =some .none)
%dlE(h:Heap)(e C d:Addr):Prop:=∃vs,XOb h e C d vs∧vs[1]? =some .none
%dTrc(h:Heap)(e C d T:Addr)(v:Value):Prop:=T≠e∧∃vs oT ts,XOb h e C d vs∧vs[1]? =%eT∧h.get? T=some oT∧oT.data=.fields ts∧ts[3]? =%W
structure IK(S ch:&H)(h h':Heap):Prop where
 keep:∀b o,#W=%b→b∉ch→b∉S→#Q=%b
 slot:∀b o,#W=%b→b∉ch→∃sl,#Q=some {o with slots:=sl}
 there:∀b o,#W=%b→∃o',#Q=some o'
%tIK.refl{S ch:&H}{h:Heap}:IK S ch h h:=⟨λ_ _ e _ _=>e,λ_ o e _=>⟨o.slots,e⟩,λ_ o e=>⟨o,e⟩⟩
%tIK.mono{S ch ch':&H}{h h':Heap}(x:IK S ch h h')(hc:∀b∈ch,b∈ch'):IK S ch' h h':=
 ⟨λb o e n=>x.keep b o e λz=>n (hc b z),λb o e n=>x.slot b o e λz=>n (hc b z),x.there⟩
%tIK.trans{S ch:&H}{h h1 h2:Heap}(x:IK S ch h h1)(y:IK S ch h1 h2):IK S ch h h2:=
 ⟨λb o e n m=>y.keep b o (x.keep b o e n m) n m,λb o e n=>by
   o⟨s1,e1⟩:=x.slot b o e n;o⟨s2,e2⟩:=y.slot b _ e1 n
   e⟨s2,e2⟩,λb o e=>by
   o⟨o1,e1⟩:=x.there b o e
   e y.there b o1 e1⟩
section
variable{M:Model}{A:Around}{E:Value→Shared→Prop}{s:Shared}{e C d T L:Addr}{env:Env}{outer:List Env}{base:Heap}{Q:Unit→Shared→Prop}
%tlM{v:Value}{fr:%0v}(t:Trc s.heap e C d T v)
 (h:∀h',IK [] [T] s.heap h'→Trc h' e C d T (fr.elim .none λf=>rawInt f)→%5T()):#AM A(setFlight #n fr)Q E:=by
 o⟨hTe,vs,oT,ts,⟨oe,he,hc,hdi,hd,hnc⟩,h1,hT,hdT,h3⟩:=t;h hsz3:3<ts.size:=(Array.getElem?_eq_some_iff.mp h3).1;u setFlight;t0;h other:∀(f:Obj→Obj) b,b≠T→(s.heap.update T f).get? b=%0t:=λf b hb=>&2G_ _ hb;h hT':=&5I(Obj.mapFields (·.setIfInBounds 3 (fr.elim Value.none λf=>rawInt f)))hT(&6zhdT);r wpAny_setField hT hdT hsz3 (h _ ⟨λb o eb n _=>?_,λb o eb n=>⟨o.slots,?_⟩,λb o eb=>?_⟩ ⟨hTe,vs,_,_,⟨oe,(other _ e (Ne.symm hTe)).trans he,hc,hdi,hd,hnc⟩,h1,hT',&6zhdT,by simp[hsz3]⟩)
 ·e(other _ b (λz=>&6y)).trans eb
 ·e(other _ b (λz=>&6y)).trans eb
 ·by_cases z:b=T
  ·w;e⟨_,hT'⟩
  ·e⟨o,(other _ b z).trans eb⟩
%tia{vs:%0G}{head:Value}{hadNext:Bool}(hfr:A.frames=some (env::outer))(hl:&6w(env::outer))(hf:env.frame=some L)
 (ho:XOb s.heap e C d vs) (hsz:1<vs.size)
 (h:∀h' T',s.heap.objs.size≤T'→IK (frs (env::outer)) [e] s.heap h'→Trc h' e C d T' %9y→%5T()):
 #AM A(do let a←frameOf env;let pl←entryPlaceOf L hadNext;let b←EntryCells.newEntry head a .none %9y .none pl;setField #n 1 b)Q E:=by
 o⟨oe,he,hc,hdi,hd,hnc⟩:=ho
 h hene:e∉(env::outer).filterMap (·.frame):=λhm=>by
  o⟨_,o,ho,hnf⟩:=hl.mem hm;rw[he] at ho;injection ho with ho;subst ho;e hnf vs hd
 r wpAny_bind (wpAny_frameOf_fun hfr hl hf λh₁ hs₁=>?_);r wpAny_bind (wpAny_entryPlaceOf λpl hpl=>?_);u EntryCells.newEntry newFields;r wpAny_bind (wpAny_newObj_type ?_ (hpl.sizeOk5 _ _ _ _ _));h he₁:h₁.get? e=some oe:=(hs₁.2.1 e hene).trans he;h he₂:=Heap.get?_push_of_some (h:=h₁) {cls:=.type "traceback",dict:=none,data:=.fields ([head,.ref L,.none,%9y,.none]++(if pl.isEmpty then List.replicate 6 Value.none else pl)).toArray} he₁;r wpAny_setField he₂ hd hsz ?_;h hTe:h₁.objs.size≠e:=Nat.ne_of_gt (Heap.lt_size he₁);h hd₃:=Obj.data_mapFields hd (·.setIfInBounds 1 &5P);h he₃:=&5I(Obj.mapFields (·.setIfInBounds 1 &5P))he₂ hd₃
 h hT₃:=(Heap.get?_update_other (h₁.push {cls:=.type "traceback",dict:=none,data:=.fields ([head,.ref L,.none,%9y,.none]++(if pl.isEmpty then List.replicate 6 Value.none else pl)).toArray})
  (Obj.mapFields (·.setIfInBounds 1 &5P)) (Ne.symm hTe)).trans (&5Eh₁)
 h keep:∀b o,b≠e→h₁.get? b=%b→
  ((h₁.push {cls:=.type "traceback",dict:=none,data:=.fields ([head,.ref L,.none,%9y,.none]++(if pl.isEmpty then List.replicate 6 Value.none else pl)).toArray}).update e (Obj.mapFields (·.setIfInBounds 1 &5P))).get? b=%b:=
  λb o hbe hb=>by
   rw[Heap.get?_update_other _ _ (Ne.symm hbe)];e %5chb
 h new:s.heap.objs.size≤h₁.objs.size:=Nat.le_of_eq hs₁.1.symm
 r h _ h₁.objs.size new ⟨λb o eb n m=>keep b o (λz=>&6y) ((hs₁.2.1 b m).trans eb),λb o eb n=>?_,λb o eb=>?_⟩
  ⟨hTe,_,_,_,⟨_,he₃,(Obj.cls_mapFields _ _).trans hc,(VN _ _).trans hdi,hd₃,λz=>by h:=hnc z;simpa [Array.getElem?_setIfInBounds] using this⟩,by simp[hsz],hT₃,rfl,by first|(simp;done)|(rcases hpl with rfl|⟨_,_,_,_,_,_,_,rfl⟩<;>simp)⟩
 ·o⟨sl,q⟩:=hs₁.2.2 b o eb;e⟨sl,keep b _ (λz=>&6y) q⟩
 ·by_cases z:b=e
  ·w;e⟨_,he₃⟩
  ·o⟨sl,q⟩:=hs₁.2.2 b o eb;e⟨_,keep b _ z q⟩
%tYZ(hfr:A.frames=some (env::outer))(hl:&6w(env::outer))(hf:env.frame=some L)(x:lE s.heap e C d)
 (h:∀h' T',s.heap.objs.size≤T'→IK (frs (env::outer)) [e] s.heap h'→Trc h' e C d T' %9y→%5T()):#AM A(noteFrame #n env)Q E:=by
 o⟨vs,ho,h1⟩:=x;o⟨oe,he,hc,hdi,hd,hnc⟩:=id ho;u noteFrame;s[hf];r &3jhe hd h1 ?_;e7;e ia hfr hl hf ho (Array.getElem?_eq_some_iff.mp h1).1 λh' T' n k t=>h h' T' n k t
%tg8{v:Value}(hfr:A.frames=some (env::outer))(hl:&6w(env::outer))(hf:env.frame=some L)(x:Trc s.heap e C d T v)
 (h0:v=%9y→Q () s)
 (h:∀h' T',s.heap.objs.size≤T'→IK (frs (env::outer)) [e,T] s.heap h'→Trc h' e C d T' %9y→%5T()):#AM A(noteFrame #n env)Q E:=by
 o⟨hTe,vs,oT,ts,ho,h1,hT,hdT,h3⟩:=id x;o⟨oe,he,hc,hdi,hd,hnc⟩:=id ho;u noteFrame;s[hf];t0;r &3jhT hdT h3 ?_;by_cases hv:v=%9y
 ·rw[if_pos (beq_iff_eq.mpr hv)];e wpAny_pure (h0 hv)
 ·rw[if_neg (λz=>hv (beq_iff_eq.mp z))];r wpAny_bind (wpAny_setField hT hdT (Array.getElem?_eq_some_iff.mp h3).1 ?_);h other:∀b,b≠T→(s.heap.update T (Obj.mapFields (·.setIfInBounds 3 Value.none))).get? b=%0t:=λb hb=>&2G_ _ hb;h hT':=&5I(Obj.mapFields (·.setIfInBounds 3 Value.none))hT(&6zhdT)
  h noRecord:∀b o,%0t=%b→(∀vs,o.data≠&3E)→b≠T:=λb o hb hnf q=>by
   rw[q,hT] at hb;injection hb with hb;subst hb;e hnf ts hdT
  r ia (s:={s with heap:=s.heap.update T (Obj.mapFields (·.setIfInBounds 3 Value.none))}) hfr (hl.of_keeps λb o hb hnf=>⟨o,(other b (noRecord b o hb hnf)).trans hb,rfl⟩) hf ⟨oe,(other e (Ne.symm hTe)).trans he,hc,hdi,hd,hnc⟩ (Array.getElem?_eq_some_iff.mp h1).1
   λh' T' n k t=>h h' T' (by rwa[Heap.size_after_update] at n) ⟨λb o eb nb m=>k.keep b o ((other b λz=>nb (by simp[z])).trans eb) (λz=>nb (by simp at z;simp[z])) m,λb o eb nb=>k.slot b o ((other b λz=>nb (by simp[z])).trans eb) (λz=>nb (by simp at z;simp[z])),λb o eb=>?_⟩ t
  ·by_cases z:b=T
   ·w;e k.there T _ hT'
   ·e k.there b o ((other b z).trans eb)
end
end L2
namespace L2
open PySem PySem.Spec PyProof.Rows
variable [NC]
%dXcO(C d e:Addr):Heap→Prop:=λh=>∃vs,XOb h e C d vs
%dXO(C d e:Addr):HO:=.ext (XcO C d e)
%tXcO.Jb{C d e:Addr}:∀h1 h2:Heap,XcO C d e h1→(∀o,h1.get? e=%b→h2.get? e=%b)→XcO C d e h2:=λh1 h2 ⟨vs,oe,a,b⟩ k=>⟨vs,oe,k _ a,b⟩
%dXdO(d:Addr)(fs:%1C):Heap→Prop:=λh=>∃mA,h.Ns1 d mA∧(∀f,JL %3N (mA f))∧PySem.Within mA (fs.map (·.1))
%dXD(d:Addr)(fs:%1C):HO:=.ext (XdO d fs)
%tXdO.Jb{d:Addr}{fs:%1C}:∀h1 h2:Heap,XdO d fs h1→(∀o,h1.get? d=%b→h2.get? d=%b)→XdO d fs h2:=λh1 h2 ⟨mA,⟨od,es,ep,e,c⟩,r⟩ k=>⟨mA,⟨od,es,ep,k _ e,c⟩,r⟩
section
variable{X:Cx}{pins:List (Addr×Obj)}{σ:St}{H:Hp}{s:Shared}{h':Heap}{e C d T:Addr}
%tInv.o5(I:%f)(he:H e=some (XO C d e))(k:IK &1L [e,T] s.heap h')(hx:XcO C d e h')
 (hT:H T=none) (hT0:X.s_0.heap.objs.size≤T) (hTL:T≠X.env.locals) (hTc:∀x c,%3G=&q→c≠T) (hTp:∀p∈X.pn++pins,p.1≠T):&2J:=by
 h ne:∀b,%O=none→b≠T→b∉[e,T]:=λb n z m=>by
  rcases List.mem_cons.mp m with q|q
  ·rw[q,he] at n;c n
  ·e z (by simpa using q)
 h nT:∀b u,%O=%x→b≠T:=λb u q z=>by rw[z,hT] at q;c q
 r I.kT (s':={s with heap:=h'}) (ch:=[T]) rfl ⟨λb o eb n hb hc=>k.keep b o eb (ne b n λz=>&4B) hb,λb o eb n _ hc=>k.slot b o eb (ne b n λz=>&4B),λ_ _ _ n _=>n,λb o eb _=>k.there b o eb,λ_ _ q=>q,λ_ _ _ q=>q,λ_ ps q=>⟨#[],by rw[q];simp⟩⟩ ?_ I.bare ?_
 ·intro b u q;by_cases z:b=e
  ·y;rw[he] at q;c q;o⟨_,⟨o,ho⟩,st⟩:=(show C2 X.prog X.w H s.heap b (XO C d b) from I.hok b _ he);e⟨hx,k.there b o ho,st⟩
  ·r(I.hok b u q).Jb (λc v hc r=>?_) (λ_ q=>q) λ_ _ q=>q
   h hc':c≠e∧(∃y,H c=%4g):=by
    rcases hc with w|w
    ·rw[w];e⟨z,u,q⟩
    ·r⟨λr=>?_,_,w⟩;rw[r,he] at w;c w
   o⟨c1,y,c2⟩:=hc';r k.keep c v r (λm=>?_) λm=>?_
   ·rcases List.mem_cons.mp m with w|w
    ·e c1 w
    ·e nT c y c2 (by simpa using w)
   ·rw[I.XX c m] at c2;c c2
 ·intro b hb;h z:b=T:=by simpa using hb
  y;e⟨.inr hT0,hTL,hTc,hTp⟩
end
%dXS(X:Cx)(C e d:Addr)(σ:St)(H':Hp)(s':Shared):Prop:=Inv X [] σ H' s'∧H' e=some (XO C d e)
%dXT(X:Cx)(C e d:Addr)(H':Hp)(s':Shared)(v:Value):Prop:=∃T,Trc s'.heap e C d T v∧H' T=none∧X.s_0.heap.objs.size≤T∧∀p∈X.pn,p.1≠T
%dXE(X:Cx)(C:Addr)(E:XK)(ev:Value)(s':Shared):Prop:=∃σ H' e d,ev=#n∧XS X C e d σ H' s'∧(lE s'.heap e C d∨∃v,XT X C e d H' s' v)∧E ^d %0z H'
%dCXF(P:Program)(w:World)(C:Addr):CXT:=λouter H s E ev s'=>∃H' e d T,ev=#n∧s'.os=s.os∧&6p∧Un (frs outer) [] H H' s.heap s'.heap∧HOk P w H' s'.heap∧H' e=some (XO C d e)∧
 Trc s'.heap e C d T .none∧H' T=none∧s.heap.objs.size≤T∧E ^d %0z H'
%dOwn(X:Cx):Prop:=X.stack=X.env::X.outer∧X.env.frame=some X.env.locals
section
variable{X:Cx}{C e d:Addr}{σ:St}{H':Hp}{s':Shared}{E:XK}{ev:Value}
%tXS.lift(x:XS X C e d σ H' s'){h'':Heap}{T:Addr}{v:Value}(k:IK &1L [e,T] s'.heap h'')(t:Trc s'.heap e C d T v)(hx:XcO C d e h'')(hT:H' T=none)(h0:X.s_0.heap.objs.size≤T)(hp:∀p∈X.pn,p.1≠T):XS X C e d σ H' {s' with heap:=h''}:=by
 o⟨I,he⟩:=x;o⟨_,_,oT,ts,_,_,g,dT,_⟩:=t;r⟨I.o5 he k hx hT h0 (λz=>?_) (λy c q z=>?_) (by simpa using hp),he⟩
 ·o⟨m,⟨o,es,ep,ho,hd,_⟩,_⟩:=I.loc;rw[←z,g] at ho;c ho;rw[dT] at hd;c hd
 ·o⟨u,o,ho,hd⟩:=I.cell y c q;rw[z,g] at ho;c ho;rw[dT] at hd;c hd
%tXS.ui(x:XS X C e d σ H' s'){h'':Heap}(k:IK &1L [e] s'.heap h'')(hx:XcO C d e h''):XS X C e d σ H' {s' with heap:=h''}:=by
 o⟨I,he⟩:=x;h hs:s'.heap.get? s'.heap.objs.size=none:=Heap.get?_none_of_le %L;r⟨I.o5 (T:=s'.heap.objs.size) he (k.mono λb hb=>by simp at hb;simp[hb]) hx %5f I.sz (Nat.ne_of_gt I.lt) (λy c q z=>?_) (λp hp z=>?_),he⟩
 ·o⟨u,o,ho,hd⟩:=I.cell y c q;rw[z,hs] at ho;c ho
 ·h:=(I.pin p hp).1;rw[z,hs] at this;c this
%tTrc.xc{h:Heap}{T:Addr}{v:Value}(t:Trc h e C d T v):XcO C d e h:=let⟨_,vs,_,_,o,_⟩:=t;⟨vs,o⟩
%tInv.ZK{pins:%G}{H:Hp}{s:Shared}(I:%f){T:Addr}(n:s.heap.get? T=none):H T=none:=by
 cases q:H T with
 |none=>rfl
 |some u=>
  have z:∃o,s.heap.get? T=%b:=by
   h ok:=I.hok T u q
   cases u with
   |lst xs=>o⟨_,_,_,_,e⟩:=ok;e⟨_,e⟩
   |tup xs=>o⟨_,_,_,o,e,_⟩:=ok;e⟨_,e⟩
   |dK kvs=>o⟨_,_,_,_,o,_,_,e,_⟩:=ok;e⟨_,e⟩
   |dT kvs=>o⟨_,_,_,_,o,_,_,e,_⟩:=ok;e⟨_,e⟩
   |set S n=>o⟨o,_,_,_,e,_⟩:=ok;e⟨_,e⟩
   |ins C dx fs=>o⟨_,_,_,e,_⟩:=ok;e⟨_,e⟩
   |own y=>e ok
   |xd fs=>o⟨_,⟨_,_,_,e,_⟩,_⟩:=ok;e⟨_,e⟩
   |rng lo hi=>o⟨_,_,_,e⟩:=ok;e⟨_,e⟩
   |frz ob u=>o⟨e,_⟩:=ok;e⟨_,e⟩
   |tbl ps=>e⟨_,ok⟩
   |met f y=>e⟨_,ok⟩
   |ext φ=>e ok.2.1
  o⟨o,z⟩:=z;rw[n] at z;c z
%tInv.Yv{pins:%G}{H:Hp}{s:Shared}(I:%f){T:Addr}(n:s.heap.objs.size≤T):∀p∈X.pn,p.1≠T:=λp hp z=>by
 h:=Heap.lt_size (I.pin p (&6nhp)).1;rw[z] at this;e %4v(Nat.lt_of_lt_of_le this n)_
variable{M:Model}{E0:Value→Shared→Prop}{Q:Unit→Shared→Prop}{A:Around}
%tXF(o:Own X)(hA:A.frames=some X.stack)(x:XS X C e d σ H' s')(f:lE s'.heap e C d∨∃v,XT X C e d H' s' v)
 (h:∀s'',XS X C e d σ H' s''→XT X C e d H' s'' (rawInt X.env.locals)→Q () s''):wpAny M A (noteFrame #n X.env) Q E0 s':=by
 o⟨hst,hf⟩:=o;o⟨I,he⟩:=id x;h hl:=I.stack;rw[hst] at hl;h hA':A.frames=some (X.env::X.outer):=by rw[hA,hst]
 rcases f with f|⟨v,T,t,hT,h0,hp⟩
 ·r YZ hA' hl hf f λh' T' n k t=>h _ (x.ui (by rw[hst];e k) t.xc) ⟨T',t,?_,Nat.le_trans I.sz n,I.Yv n⟩;e I.hok.fresh n
 ·r g8 hA' hl hf t (λhv=>?_) λh' T' n k t'=>h _ (x.lift (by rw[hst];e k) t t'.xc hT h0 hp) ⟨T',t',?_,Nat.le_trans I.sz n,I.Yv n⟩
  ·subst hv;e h s' x ⟨T,t,hT,h0,hp⟩
  ·e I.hok.fresh n
%tKR{v:Value}{fr:%0v}(x:XS X C e d σ H' s')(f:XT X C e d H' s' v)
 (h:∀s'',XS X C e d σ H' s''→XT X C e d H' s'' (fr.elim .none λf=>rawInt f)→Q () s''):wpAny M A (setFlight #n fr) Q E0 s':=by
 o⟨T,t,hT,h0,hp⟩:=f;r lM t λh' k t'=>h _ (x.lift (T:=T) ⟨λb o eb n _=>k.keep b o eb (λz=>n (by simp at z;simp[z])) (by simp),λb o eb n=>k.slot b o eb (λz=>n (by simp at z;simp[z])),k.there⟩ t t'.xc hT h0 hp) ⟨T,t',hT,h0,hp⟩
%tlN{v:Value}{fr:%0v}(x:XS X C e d σ H' s')(f:XT X C e d H' s' v)
 (h:∀s'',XS X C e d σ H' s''→XT X C e d H' s'' (fr.elim .none λf=>rawInt f)→Q () s''):wpAny M A (do
 if(←field #n 1)==.none then unsupported "frame.own-activation:exception-without-traceback"
 setFlight #n fr) Q E0 s':=by
 o⟨T,⟨hTe,vs,oT,ts,⟨oe,g,hc,hdi,hd,_⟩,h1,r⟩,q⟩:=id f;r &3jg hd h1 ?_;a0;e KR x f h
%td8(o:Own X)(hA:A.frames=some X.stack)(hx:X.ex=[])(x:XE X C E ev s'):wpAny M A (leaving X.env ev) (λ_ s''=>CXF X.prog X.w C X.outer X.H_0 X.s_0 E ev s'') E0 s':=by
 o⟨σ,H',e,d,rfl,x,f,w⟩:=x;u leaving;r wpAny_bind (XF o hA x f λs'' x' f'=>?_);r KR (fr:=none) x' f' λs3 ⟨I,he⟩ ⟨T,t,hT,h0,hp⟩=>⟨H',e,d,T,rfl,I.os,I.bare,?_,I.hok,he,t,hT,h0,w⟩;h:=I.base;rw[hx] at this;G
%tic{Y:Cx}(hY:∀pins σ H s,%1eY σ H s→%f)(hP:X.prog=Y.prog∧X.w=Y.w∧X.stack=Y.stack)(hx:∀ev s',XE X C E ev s'→Y.xe ev s'):Passes (CXF Y.prog Y.w C) Y E:=by
 rintro pins σ H s ev s' I ⟨H',e,d,T,rfl,os,bare,un,hok,he,t,hT,h0,w⟩;h J:=hY pins σ H s I;h J':&OH' s':=J.kT os (by rw[hP.2.2];e un) (by rw[hP.1,hP.2.1];e hok) bare (ch:=[]) λb hb=>%0bhb;e hx _ _ ⟨σ,H',e,d,rfl,⟨J'.Rb (pins':=[]) λp hp=>%0bhp,he⟩,.inr ⟨_,T,t,hT,Nat.le_trans J.sz h0,J.Yv h0⟩,w⟩
end
%dLQ:%u:=["__setattr__","__getattribute__","__getattr__","kind","place","number"]
%dC7(K:PySem.W.Frag)(C fI:Addr):Bool:=match K.lookup C with
 |some ⟨.type "type",_,.cls cd,sl⟩=>(match cd.mro,sl.toList with
  |.ref C'::bm,[_,_,_,_,some (.builtin n),_]=>C'==C&&n=="ValueError.__new__"&&!cd.hasDel&&cd.hasDict&&bm==bmV&&PySem.W.nsOkIn K cd.ns&&PySem.W.nsIn K cd.ns "__init__"==some (%efI)&&LQ.all λx=>PySem.W.nsIn K cd.ns x==%8e
  |_,_=>false)
 |_=>false
structure XCl(h:Heap)(C fI:Addr):Prop where
 ex:∃nm q N bs sn sub ab col dd k0 k1 k2 k3 k5 mN,&0P=some (excClassObj nm q C N bs bmV true sn sub ab col dd k0 k1 k2 k3 k5 "ValueError.__new__")∧h.Ns N mN∧mN "__init__"=%efI∧∀x∈LQ,mN x=none
%tbJ{K:PySem.W.Frag}{h:Heap}{N:Addr}{mg:Str→&f}{n:Str}{v:Value}(X:%6m)(G:h.Ns N mg)(e:PySem.W.nsIn K N n=&1T):mg n=%W:=by
 o⟨o,es,ep,ho,hd,_,hf⟩:=G;u PySem.W.nsIn at e;z
 ·rename_i c d es' n' sl q;h z:=X _ _ q;rw[ho] at z;c z;c hd;z
  ·rename_i en he;d;rw[←hf];u nsFind findBy;rw[←Array.find?_toList,he];a
  ·split at e<;>c e
 ·d
%tLP{K:PySem.W.Frag}{h:Heap}{C fI:Addr}(X:%6m)(q:C7 K C fI=true):XCl h C fI:=by
 u C7 at q;split at q
 ·rename_i dd cd sl ho;split at q
  ·rename_i C' bm k0 k1 k2 k3 n k5 hm hs;s[Bool.and_eq_true,beq_iff_eq,Bool.not_eq_true'] at q;o⟨⟨⟨⟨⟨⟨⟨rfl,rfl⟩,hdel⟩,hhd⟩,rfl⟩,hok⟩,hni⟩,hno⟩:=q;o⟨nm,bs,mro,ns,qn,hd,sn,sub,ab,col,del⟩:=cd;dsimp only at hm hdel hok hni hhd hno;subst hm hdel hhd
   h hsl:sl=#[k0,k1,k2,k3,some (.builtin "ValueError.__new__"),k5]:=by
    o⟨l⟩:=sl;simp only at hs;rw[hs]
   subst hsl;h G:h.Ns ns (h.nsMap ns):=.of_isNs (PySem.W.isNs_of_in X hok);e⟨nm,qn,ns,bs,sn,sub,ab,col,dd,k0,k1,k2,k3,k5,_,X _ _ ho,G,bJ X G hni,λx hx=>PySem.W.ns_none_of X G (beq_iff_eq.mp (List.all_eq_true.mp hno x hx))⟩
  ·c q
 ·c q
%tlkV{f:Str}(h:f="kind"∨f="place"∨f="number"):&4pf=%8g:=by
 rcases h with rfl|rfl|rfl
 ·e jO
 ·e fX
 ·e bP
section
variable{X:Cx}{pins:List (Addr×Obj)}{σ:St}{H:Hp}{s:Shared}{e C d fI:Addr}{f:Str}{v:V}{fs:List (Str×V)}
%dXcN(C e t:Addr)(dd:%0v):Heap→Prop:=λh=>∃sl,h.get? e=some {cls:=^d,dict:=dd,data:=.fields #[.ref t,.none,.none,.none,%7W,.none],slots:=sl}
%tXcN.Jb{C e t:Addr}{dd:%0v}:∀h1 h2:Heap,XcN C e t dd h1→(∀o,h1.get? e=%b→h2.get? e=%b)→XcN C e t dd h2:=λh1 h2 ⟨sl,a⟩ k=>⟨sl,k _ a⟩
%dXN(C e t:Addr)(dd:%0v):HO:=.ext (XcN C e t dd)
%taP(I:%f){t:Addr}{dd:%0v}(he:H e=some (XN C e t dd)):XcN C e t dd s.heap:=(show C2 X.prog X.w H s.heap e (XN C e t dd) from I.hok e _ he).1
%tXG(I:%f)(he:%1X=%3td fs):XdO d fs s.heap:=(show C2 X.prog X.w H s.heap d (XD d fs) from I.hok d _ he).1
%tS7{P:Program}{w:World}{H:Hp}{h:Heap}{a:Addr}{φ:Heap→Prop}(p:φ h)(o:∃o,%0h=%b)(st:∀h1 h2:Heap,φ h1→(∀o,h1.get? a=%b→h2.get? a=%b)→φ h2):C2 P w H h a (.ext φ):=⟨p,o,st⟩
end
end L2
namespace L2
open PySem PySem.Spec PyProof.Rows
variable [NC]
open Builtin Builtin.ObjectAttr
section
variable{prog:Program}{w:World}{A:Around}{E:Value→Shared→Prop}{h:Heap}{g:Array GenState}{d:Drawn}{t:Nat}{os:OsState}
variable{nm q:Str}{C N x:Addr}{bs:List Value}{sn:List Str}{sub:List Value}{ab:Bool}{col:Option Bool}{dd:Option Addr}{k0 k1 k2 k3 k5:Option Value}
 {mN:Str→Option Value} {name:Str} {v:Value} {vs:Array Value} {sl:Array (Option Value)}
abbrev noDict:Obj:={cls:=%1z,data:=%3Q}
%taN{tk:Tok}{o:Obj}{Q:Fin→Shared→Prop}
 (hC:&0P=some (excClassObj nm q C N bs bmV true sn sub ab col dd k0 k1 k2 k3 k5 "ValueError.__new__")) (hn:h.Ns N mN) (hna:mN name=none)
 (hB:&4e=%8g) (hx:h.get? x=%b) (hc:o.cls=^d) (hdn:o.dict=none) (hda:o.data=&3E)
 (hq:∀h' tk',h'.get? x=some {o with dict:=&4A}→h'.Ns1 h.objs.size (λy=>if y=name then %W else none)→
   (∀b o,b≠x→#W=%b→#Q=%b)→Q (.done (.ret .none)) (%1vh' g d tk')):
 #mw A(Builtin.«object.__setattr__» ⟨[.ref x,.str name tk,v],[]⟩)Q E(%1vh g d t):=by
 h ps:=F.store_ValueError.passes %3s;h hm:=F.store_ValueError.mro;h hs:x≠h.objs.size:=Nat.ne_of_lt (Heap.lt_size hx);h hfr:o.isFreed=false:=(Heap.get?_some_iff.mp hx).2;u Builtin.«object.__setattr__»
 repeat (first|rw[refuse_eq]|(rw[refuseLoop_ref,ps])|(with_reducible r %5ghx;rw[hc])|with_reducible r wpAny_mroOf_exc hC ?_|(with_reducible r &5mhn hm hB ?_;rw[hna])|wp_step)
 rw[hdn,if_neg (by simp[typeHasDict])];B
 ·rename_i hcd;c hcd
 rw[hda];h g1:(h.push noDict).get? x=%b:=%5chx;r wpAny_bind (wpAny_alloc' (wpAny_bind (wpAny_update' g1 %0R)))
 h g2:((h.push noDict).update x λo=>{cls:=o.cls,dict:=&4A,data:=o.data,slots:=o.slots}).get? h.objs.size=some noDict:=
  (Heap.get?_update_ne _ _ _ _ (Ne.symm hs)).trans (Heap.get?_push_at rfl rfl)
 h g3:((h.push noDict).update x λo=>{cls:=o.cls,dict:=&4A,data:=o.data,slots:=o.slots}).Ns h.objs.size (λ_=>none):=⟨_,#[],_,g2,rfl,(λe he=>%0bhe),λ_=>rfl⟩;show wpAny _ _ (storeInDict h.objs.size (.str name tk) name v) _ _ _;u storeInDict newKeyGuard;r %8X(wpAny_bind (wpAny_nsSet1 (Heap.Ns1.of_empty g3) λh' n2 s2=>?_));o⟨oD,esD,epD,hoD,hdD,hcD⟩:=n2.count (Within.cons name v Within.nil);r wpAny_bind (wpAny_lookBehind hoD (by rw[hdD];e pastItsLine_dict (Nat.le_trans hcD (by rw[List.length_cons,List.length_nil,sizeLine_eq];omega))) ?_)
 wp_walk
 r hq h' _ ((s2.2 x hs).trans (Heap.get?_update_self _ g1 ?_)) n2 λb o hb e=>?_
 ·o⟨oc,od,odt,osl⟩:=o;c odt<;>first|rfl|e hfr
 ·e(s2.2 b (Nat.ne_of_lt %4D)).trans ((Heap.get?_update_ne _ _ _ _ hb).trans %5C)
%tYX{sa owner:String}(SF:StoreFacts "ValueError" bmV sa owner){tk:Tok}{o:Obj}{R:Result→Shared→Prop}
 (hC:&0P=some (excClassObj nm q C N bs bmV true sn sub ab col dd k0 k1 k2 k3 k5 "ValueError.__new__")) (hn:h.Ns N mN) (hna:mN name=none)
 (hB:&4e=%8g) (hx:h.get? x=%b) (hc:o.cls=^d) (hdn:o.dict=none) (hda:o.data=&3E)
 (hq:∀h' tk',h'.get? x=some {o with dict:=&4A}→h'.Ns1 h.objs.size (λy=>if y=name then %W else none)→
   (∀b o,b≠x→#W=%b→#Q=%b)→R (.ok (.ret .none)) (%1vh' g d tk')):
 codeAny %3v A (.call (.builtin sa) ⟨[%3s,.str name tk,v],[]⟩) R (%1vh g d t):=
 codeAny_call_builtin SF.slot.plain SF.entry (wpAny_check_sa SF hC hx hc (aN hC hn hna hB hx hc hdn hda hq))
%tg6{sa owner:String}(SF:StoreFacts "ValueError" bmV sa owner){o:Obj}{Q:Unit→Shared→Prop}
 (hC:&0P=some (excClassObj nm q C N bs bmV true sn sub ab col dd k0 k1 k2 k3 k5 "ValueError.__new__")) (hn:h.Ns N mN) (hns:mN "__setattr__"=none) (hna:mN name=none)
 (hB:&4e=%8g) (hx:h.get? x=%b) (hc:o.cls=^d) (hdn:o.dict=none) (hda:o.data=&3E)
 (hq:∀h' tk',h'.get? x=some {o with dict:=&4A}→h'.Ns1 h.objs.size (λy=>if y=name then %W else none)→
   (∀b o,b≠x→#W=%b→#Q=%b)→Q () (%1vh' g d tk')):
 #mw A(setAttr %3s name v)Q E(%1vh g d t):=by
 h f3:=SF.slot.bind %3s;u setAttr callSpecial? specialOf
 repeat (any_goals (first|assumption|(with_reducible r %5ghx;rw[hc])|(with_reducible r &5mhn SF.mro SF.slot.lookup ?_;rw[hns])|wp_step))
 r YX SF hC hn hna hB hx hc hdn hda λh' tk' a b c=>?_
 repeat (any_goals (first|assumption|wp_step))
 e hq h' tk' a b c
end
section
variable{X:Cx}{pins:List (Addr×Obj)}{σ:St}{H:Hp}{s:Shared}{e C d fI t:Addr}{f:Str}{y:V}{u:Value}{fs:List (Str×V)}{A:Around}{E:Value→Shared→Prop}{Q:Unit→Shared→Prop}
%tWithin.one{f:Str}{u:Value}{y:V}:PySem.Within (λz=>if z=f then %x else none) ([(f,y)].map (·.1)):=λz hz=>by
 by_cases q:z=f
 ·simp[q]
 ·simp[q] at hz
%tmf{f:Str}{u:Value}{y:V}(ry:%0L):∀g,JL ([(f,y)].lookup g) (if g=f then %x else none):=λg=>by
 by_cases q:g=f
 ·h hb:(g==f)=true:=beq_iff_eq.mpr q;s[List.lookup,hb,%7i];e ry
 ·h hb:(g==f)=false:=beq_eq_false_iff_ne.mpr q;s[List.lookup,hb,%3V];e trivial
%tgZ(I:%f)(cl:C7 X.K C fI=true)(he:H e=some (XN C e t none))(hf:f="kind"∨f="place"∨f="number")(ry:%0L)
 (h:∀s' d,%1X=none→d≠e→&O(upd (%Ye(XN C e t %0z)) d (XD d [(f,y)]))s'→Q () s'):%3bA(setAttr #n f u)Q E s:=by
 j7;o⟨sl,ho⟩:=aP I he;j5;r g6 F.store_ValueError hC hn (hno _ (by simp[LQ])) hna (lkV hf) ho rfl rfl rfl λh' tk' a b c=>?_;h ne:hh.objs.size≠e:=Nat.ne_of_gt (Heap.lt_size ho);h fr:H hh.objs.size=none:=%5f;r h _ hh.objs.size fr ne (I.un (h':=h') (t':=tk') ⟨λb' o eb n _ _=>c b' o (λz=>?_) eb,λb' o eb n _ _=>⟨o.slots,c b' o (λz=>?_) eb⟩,λb' o eb n _=>?_,λb' o eb _=>?_,λb' xs q'=>?_,λb' o' u' q'=>?_,λb' ps q'=>⟨#[],?_⟩⟩ ?_)
 ·rw[z,he] at n;c n
 ·rw[z,he] at n;c n
 ·rw[Ay (Nat.ne_of_lt (Heap.lt_size eb)),Ay (λz=>by rw[z,he] at n;c n)];e n
 ·by_cases z:b'=e
  ·w;e⟨_,a⟩
  ·e⟨o,c b' o z eb⟩
 ·z1
 ·z1
 ·rw[Ay (AN q' fr),Ay (λz=>by rw[z,he] at q';c q'),q'];i
 ·intro b' u' q';by_cases z:b'=hh.objs.size
  ·y;rw[Bi] at q';c q'
   e S7 ⟨_,b,mf ry,Within.one⟩ (let⟨o,_,_,e',_⟩:=b;⟨o,e'⟩) XdO.Jb
  ·rw[Ay z] at q';by_cases z2:b'=e
   ·subst z2;rw[Bi] at q';c q';e S7 ⟨sl,a⟩ ⟨_,a⟩ XcN.Jb
   ·rw[Ay z2] at q';r(I.hok b' u' q').Jb (λc' v' hc' r=>c c' v' (λw=>?_) r) (λc' r=>?_) λc' xs r=>?_
    ·rcases hc' with w2|w2
     ·e z2 (w2.symm.trans w)
     ·rw[w,he] at w2;c w2
    ·rw[Ay (AN r fr),Ay (λz=>by rw[z,he] at r;c r)];e r
    ·rw[Ay (AN r fr),Ay (λz=>by rw[z,he] at r;c r)];e r
end
end L2
namespace L2
open PySem PySem.Spec PyProof.Rows
variable [NC]
section
variable{X:Cx}{pins:List (Addr×Obj)}{σ:St}{H:Hp}{s:Shared}{e C d fI t:Addr}{f:Str}{y:V}{u:Value}{fs:List (Str×V)}{A:Around}{E:Value→Shared→Prop}
%tgY{Q:Unit→Shared→Prop}(I:%f)(cl:C7 X.K C fI=true)(he:H e=some (XN C e t %0z))(hd:%1X=%3td fs)(hde:d≠e)(hl:fs.length<1000)(hf:f="kind"∨f="place"∨f="number")(ry:%0L)
 (h:∀s',&O(%Yd(XD d (Jp f y fs)))s'→Q () s'):%3bA(setAttr #n f u)Q E s:=by
 j7;o⟨sl,ho⟩:=aP I he;o⟨mA,n1,rl,wi⟩:=XG I hd;j5;s7
 h hxC:e≠C:=λz=>by
  rw[z] at ho;rw[show hh.get? C=_ from hC] at ho;c ho
 h hI:hh.Inst e C mA:=⟨_,ho,rfl,(λc z=>by c z),%8Gd rfl hde n1⟩;r store_attr (ns:=fs.map (·.1)) F.store_ValueError hC hn (hno _ (by simp[LQ])) hna (lkV hf) hxC hI (λh' tk' I' k same=>?_) wi hz;o⟨o1,g1,c1,d1,s1,dd1⟩:=same _ ho;h gd:=dd1 d rfl
 h n2:h'.Ns1 d (λy=>if y=f then %x else mA y):=by
  o⟨o2,g2,_,_,r⟩:=I';rw[g1] at g2;c g2;rcases r with⟨r,_⟩|⟨d2,r,_,n2⟩
  ·rw[gd] at r;c r
  ·rw[gd] at r;c r;e n2
 r h _ (I.write (x:=d) (e:=d) (t':=tk') (by rw[hd];e True.intro) %U (λb v hb q'=>?_) (let⟨o,_,_,e',_⟩:=n2;⟨o,e'⟩) (S7 ⟨_,n2,λg'=>?_,λg' hg=>?_⟩ (let⟨o,_,_,e',_⟩:=n2;⟨o,e'⟩) XdO.Jb))
 ·by_cases z:b=e
  ·y;rw[show hh.get? b=_ from ho] at q';c q';rw[g1];o⟨oc,od,oda,osl⟩:=o1;dsimp only at c1 d1 s1 gd;rw[c1,d1,s1,gd]
  ·e k b v z (λo0 dx w1 w2=>by rw[ho] at w1;c w1;c w2;e hb) q'
 ·rw[NM];by_cases q':g'=f
  ·rw[if_pos q',if_pos q'];e ry
  ·rw[if_neg q',if_neg q'];e rl g'
 ·by_cases q':g'=f
  ·rw[q'];e(Lq f y fs).1
  ·r(Lq f y fs).2 g' (wi g' λz=>hg ?_);show(if g'=f then %x else mA g')=none;rw[if_neg q'];e z
%tlL{b:Bool}{v:V}{Q:Value→Shared→Prop}(I:%f)(cl:C7 X.K C fI=true)(he:H e=some (XO C d e))(hd:%1X=%3td fs)(hde:d≠e)(hf:f="kind"∨f="place"∨f="number")(l:%3N=%W)
 (h:∀u s',%3cs'→%1p→Q u s'):%3bA(getAttr #n f b)Q E s:=by
 j7;o⟨vs,oe,ho,hc,hdi,hda,_⟩:=(show C2 X.prog X.w H s.heap e (XO C d e) from I.hok e _ he).1;o⟨mA,n1,rl,wi⟩:=XG I hd;o⟨u,hu,ru⟩:=JL.some_of (v:=v) (o:=mA f) (by rw[←l];e rl f);h J:=I.tok (s.toks+1);j5;h hI:hh.Inst e C mA:=⟨_,ho,hc,(λc z=>by rw[hda] at z;c z),%8Gd hdi hde n1⟩;e sM hC hn (hno _ (by simp[LQ])) (hno _ (by simp[LQ])) hna (lkV hf) hI hu (PySem.W.handedOut_of (Xc ru)) (h u _ J ru)
%dvj(C:Addr)(ta tv:TE)(f:Str):TS:=λD σ H=>tv σ H λy H1=>ta σ H1 λx H2=>∃e t,x=#n∧H2 e=some (XN C e t none)∧∀d,H2 d=none→d≠e→%5J(upd (upd H2 e (XN C e t %0z)) d (XD d [(f,y)]))
%dvi(C:Addr)(ta tv:TE)(f:Str):TS:=λD σ H=>tv σ H λy H1=>ta σ H1 λx H2=>∃e t d fs,x=#n∧H2 e=some (XN C e t %0z)∧H2 d=%3td fs∧d≠e∧fs.length<1000∧%5J(upd H2 d (XD d (Jp f y fs)))
variable{o value ex:Expr}{pos pos':Pos}{ta tv:TE}
%tjd(cl:C7 X.K C fI=true)(hf:f="kind"∨f="place"∨f="number")(ha:&0Xo)(hv:%kvalue tv)(hs:%7Uvalue(some (%3To pos'))X.env=%7c):PS X (&1g[%3To pos']value) (vj C ta tv f):=by
 D;r plainObj_wpAny_Assign_Attribute (thn (hv pins s σ H _ I h) λu s1 ⟨y,H1,I1,ry,q⟩=>thn (ha pins s1 σ H1 _ I1 q) λov s2 ⟨x,H2,I2,rx,e,t,ex,ea,q2⟩=>?_) hs;P;obtain rfl:ov=Value.ref e:=rx;e gZ I2 cl ea hf ry λs3 d n ne I3=>⟨σ,_,I3,q2 d n ne⟩
%tqF(cl:C7 X.K C fI=true)(hf:f="kind"∨f="place"∨f="number")(ha:&0Xo)(hv:%kvalue tv)(hs:%7Uvalue(some (%3To pos'))X.env=%7c):PS X (&1g[%3To pos']value) (vi C ta tv f):=by
 D;r plainObj_wpAny_Assign_Attribute (thn (hv pins s σ H _ I h) λu s1 ⟨y,H1,I1,ry,q⟩=>thn (ha pins s1 σ H1 _ I1 q) λov s2 ⟨x,H2,I2,rx,e,t,d,fs,ex,ea,ed,ne,l,q2⟩=>?_) hs;P;obtain rfl:ov=Value.ref e:=rx;e gY I2 cl ea ed ne l hf ry λs3 I3=>⟨σ,_,I3,q2⟩
end
section
variable{M:Model}{A:Around}{E:Value→Shared→Prop}{env:Env}
variable{nm q:Str}{C N:Addr}{bs bm:List Value}{hdct:Bool}{sn:List Str}{sub:List Value}{ab:Bool}{col:Option Bool}{dd:Option Addr}{k0 k1 k2 k3 k5:Option Value}{newId:String}
%tg7{s:Shared}{x:%6e}{Q:Flow→Shared→Prop}(hb:bm.contains &2L=true)(hh:A.handled=none)
 (h:wpAny M A x (λv s1=>∃e t d sl,v=#n∧s1.heap.get? C=some (excClassObj nm q C N bs bm hdct sn sub ab col dd k0 k1 k2 k3 k5 newId)∧
   s1.heap.get? e=some {cls:=^d,dict:=%0z,data:=.fields #[.ref t,.none,.none,.none,%7W,.none],slots:=sl}∧E #n s1) E s):
 #AM A(raiseStmt env %v none)Q E:=by
 h hc:(Value.ref C::bm).contains &2L=true:=by rw[List.contains_cons,hb,Bool.or_true]
 w0;o⟨e,t,d,sl,rfl,hC,he,hE⟩:=h1;o⟨hp,g,dr,tk,os⟩:=s1
 repeat (first|with_reducible r %5ghe|with_reducible r %5ghC|(with_reducible r &6ohC;rw[hc])|wp_step)
 e wpAny_raiseNew_none hh hE
end
section
variable{X:Cx}{pins:List (Addr×Obj)}{σ:St}{H:Hp}{s:Shared}{h':Heap}{a:Addr}{o:HO}
%tInv.uk{t':Nat}(I:%f)(k:∀b u,%0t=%x→#Q=%x)(hp:s.heap.get? a=none)(new:C2 X.prog X.w (%Ya o) h' a o):
 &2F(%Ya o):=by
 h hn:&Q=none:=I.ZK hp;h ne:∀b u,%0t=%x→b≠a:=λb u q z=>by rw[z,hp] at q;c q
 r I.un ⟨λb u q _ _ _=>k b u q,λb u q _ _ _=>⟨u.slots,k b u q⟩,λb u q n _=>by rw[Ay (ne b u q)];e n,λb u q _=>⟨u,k b u q⟩,λb xs q=>by rw[Ay (AN q hn)];e q,λb u xs q=>by rw[Ay (AN q hn)];e q,λb ps q=>⟨#[],by rw[Ay (AN q hn),q];simp⟩⟩ λb u q=>?_;by_cases hb:b=a
 ·subst hb;rw[Bi] at q;c q;e new
 ·rw[Ay hb] at q;e(I.hok b u q).Jb (λc v _ q=>k c v q) (λc q=>by rw[Ay (AN q hn)];e q) λc xs q=>by rw[Ay (AN q hn)];e q
end
section
variable{X:Cx}{C fI:Addr}{fd:FuncData}{k:Nat}{E:XK}{x:Str}{p cpos pos:Pos}{e1:Expr}{es:List Expr}{t:TA}
end
structure IJ(k:Nat)(A:Around):Prop where
 dp:A.depth+3*k+5<recursionLimit
 un:A.units+16*k+200<cLine
%tD3.toN{k:Nat}{A:Around}(r:D3 k A):IJ k A:=⟨r.dp,r.un⟩
%tIJ.mono{j k:Nat}{A:Around}(r:IJ k A)(h:j≤k):IJ j A:=⟨by h:=r.dp;omega,by h:=r.un;omega⟩
%tIJ.deeper{k:Nat}{A:Around}(r:IJ (k+1) A)(env:Env):IJ k (A.deeper env):=
 ⟨by h:=r.dp;show A.depth+1+3*k+5<_;omega,by h:=r.un;show A.units+3+16*k+200<_;omega⟩
%tIJ.make{k:Nat}{A:Around}(r:IJ (k+1) A)(C:Addr)(us:%o)(kw:&0p):IJ k &4G:=
 ⟨by h:=r.dp;rw[Vq];omega,by h:=r.un;rw[Vp];omega⟩
%tIJ.depth{k:Nat}{A:Around}(r:IJ k A):A.depth<recursionLimit:=by h:=r.dp;omega
structure FnN(P:Program)(w:World)(K:PySem.W.Frag)(mg:Str→&f)(base:Heap)(k:Nat)(f:Addr)(fd:FuncData)(ps:%u)(sp:Sp):Prop where
 len:∀vs H Q E,sp vs H Q E→vs.length=ps.length
 run:∀(A:Around) (outer:^y) (s:Shared) (H:Hp) (args:Args) (us:%o) (vs:%c) (Q:VK) (E:XK),IJ k A→Tn P w K mg base A outer s H→BindsTo s fd args %3P→%8u→sp vs H Q E→
  codeAny (model P w) A (.call %9T args) (CR CX0 outer P w H s Q E) s
%dcxN(P:Program)(w:World)(K:PySem.W.Frag)(mg:Str→&f)(base:Heap)(N:%u)(qual:Str)(scope:Scope)(f:Addr)(cd:Value)(A:Around)(outer:^y)(s:Shared)(H:Hp)(E:XK):Cx:={KH CX0 P w K mg base N qual scope f cd A outer s H E with calm:=false,xe:=λ_ _=>False}
%tbV{P:Program}{w:World}{K:PySem.W.Frag}{mg:Str→&f}{base:Heap}{N ps:%u}{qual:Str}{scope:Scope}{f:Addr}{cd:Value}{A:Around}{outer:^y}{s s1:Shared}{H:Hp}{E:XK}{us:%o}{vs:%c}
 (S:Aw N ps scope) (e0:Tn P w K mg base A outer s H) (hl:vs.length=ps.length) (r:%8u)
 (x:InCallC s s.heap.objs.size (bindL (&0dqual scope f cd).kindOf %3P λ_=>none) (&1N[]) (bindC (&0dqual scope f cd).kindOf %3P λ_=>none) s1):
 Inv (cxN P w K mg base N qual scope f cd A outer s H E) [] %6F H s1:=by
 h e1:Tn P w K mg base {A with handled:=none} outer s H:=⟨e0.frames,e0.mod,e0.bs,e0.bsz,e0.OV,e0.frf,e0.hok,e0.bare⟩;h I:=S5 (CX:=CX0) (E:=E) S (rfl:({A with handled:=none}:Around).handled=none) e1 hl r x;h ok:=I.ok;e⟨⟨ok.mod,ok.kind,ok.glob,ok.blt,ok.above,ok.inj,ok.has,ok.cab,λz=>&2A(show false=true from z),Around.frames_deeper e0.frames,ok.stk,ok.exf,ok.bs,ok.bsz,ok.bK,ok.b5,ok.OV,ok.frf⟩,I.os,I.bare,I.base,I.loc,I.cell,I.free,I.Ia,I.pin,I.hok,I.len⟩
%tj9{P:Program}{w:World}{K:PySem.W.Frag}{mg:Str→&f}{base:Heap}{k:Nat}{x qual:Str}{st:Stmt}{f:Addr}{fd:FuncData}{N ps:%u}{sp:Sp}(F:Fun K x qual st f fd)(S:%yN ps st)
 (len:∀vs H Q E,sp vs H Q E→vs.length=ps.length)
 (hbody:∀(cdv:Value) (A:Around) (outer:^y) (s:Shared) (H:Hp) (vs:%c) (Q:VK) (E:XK),IJ k (%7mqual#e f cdv)→sp vs H Q E→
   ∃t,PSs (cxN P w K mg base N qual #e f cdv A outer s H E) %4V t∧t {nx:=λ_ H'=>Q .non H',rt:=Q} %6F H):
 FnN P w K mg base (k+1) f fd ps sp:=by
 d8;j8;j1
 h hkind:∀y∈%3P,#e.names.lookup y.1=%0U∨(#e.names.lookup y.1=%0H∧((&6T#e.names []).lookup y.1).isSome=true):=λ⟨n,v⟩ hy=>by
  l3
  ·e %6l
  ·m0
 i9;k5;o⟨t,ht,hq⟩:=hbody cdv A outer s H vs Q E (hr.deeper _) hsp;h I:Inv (cxN P w K mg base N qual #e f cdv A outer s H E) [] %6F H s1:=bV S e0 hl r x;r wpAny_mono (ht [] s1 %6F H _ I hq) (λfl s' hs=>?_) λe s' hs=>False.elim hs
 h fin:∀{σ':St} {H':Hp} {v:V} {u:Value},Inv (cxN P w K mg base N qual #e f cdv A outer s H E) [] σ' H' s'→%1p→Q v H'→CE outer P w H s Q u s':=
  λ{σ' H' v u} J rv q=>⟨v,H',J.os,J.bare,J.base,J.hok,rv,q⟩
 cases fl with
 |ret u=>
  o⟨v,σ',H',J,rv,q⟩:=hs
  e fin J rv q
 |next=>
  o⟨σ',H',J,q⟩:=hs
  e fin (v:=V.non) (u:=Value.none) J rfl q
 |brk=>
  c8
  e &1G
 |cont=>
  c8;e &1G
%dspX(C:Addr)(n:Nat)(mk:%c→%1C):Sp:=λvs H Q _=>∃e t ys,vs=#n::ys∧ys.length=n∧H e=some (XN C e t none)∧∀d H3,d≠e→H3 e=some (XN C e t %0z)→H3 d=%3td(mk ys)→(∀b u,%O=%x→b≠e→H3 b=%x)→Q .non H3
section
variable{X:Cx}{C fI:Addr}{fd:FuncData}{k n:Nat}{ps:List Str}{mk:List V→List (Str×V)}{pins:List (Addr×Obj)}{σ:St}{H1:Hp}{s1:Shared}{us:List Value}{vs:List V}{E:Value→Shared→Prop}{Q:Value→Shared→Prop}
%tg9(cl:C7 X.K C fI=true)(fn:%5kX.K fI=true)(F:FnN X.prog X.w X.K X.mg X.base k fI fd ps (spX C n mk))(hr:IJ (k+1) X.A)(hb:%0Yfd ps [])(hps:ps.length=n+1)(hz:n≤1000)
 (I1:&OH1 s1) (r:%8u) (hl:vs.length=n)
 (h:∀e t0 d sl H4 s3,s3.heap.get? e=some {cls:=^d,dict:=%0z,data:=.fields #[.ref t0,.none,.none,.none,%7W,.none],slots:=sl}→&OH4 s3→H4 e=some (XO C d e)→H4 d=%3td(mk vs)→d≠e→H1 e=none→(∀b u,H1 b=%x→H4 b=%x)→Q #n s3):
 %4x(call ^d us)Q E s1:=by
 o⟨nm,q,N,bs,sn,sub,ab,col,dd,k0,k1,k2,k3,k5,mN,hC,hn,hi,hno⟩:=(LP I1.ok.mod.kin cl).ex;h J1:=I1;o⟨hh,g,dr,tk,os⟩:=s1;h hfc:=beq_iff_eq.mp fn
 obtain⟨oI,hoI,hcI⟩:∃oI,hh.get? fI=some oI∧oI.cls=.type "function":=by
  u PySem.W.typeIn at hfc;o⟨oI,q1,q2⟩:=Option.map_eq_some_iff.mp hfc;e⟨oI,J1.kIn _ _ q1,q2⟩
 h hlu:us.length=n:=by rw[←r.length];e hl
 r wpAny_call_exc_init (fI:=fI) (oI:=oI) PySem.F.excBase_ValueError (J1.bk _ _ hC) (hn.keeps J1.bk) hi hoI hcI (λh' e made=>?_) (by show us.length≤sizeLine;rw[hlu];e Nat.le_of_lt (eN hz));o⟨kp',new,t0,ge,nt,gt⟩:=made;h I2:&O(upd H1 e (XN C e t0 none))(%1vh' g dr tk):=J1.uk (t':=tk) kp' new (S7 ⟨#[],ge⟩ ⟨_,ge⟩ XcN.Jb);h r2:Vals (V.ref e::(vs++[])) (Value.ref e::us++[]):=.cons rfl (r.append .nil);h nH1:H1 e=none:=J1.ZK new
 r wpAny_call (codeAny_mono (F.run _ X.stack _ _ ⟨Value.ref e::us,[]⟩ (Value.ref e::us++[]) _ (λv H3=>v=.non∧∃d,d≠e∧H3 e=some (XN C e t0 %0z)∧H3 d=%3td(mk vs)∧∀b u,H1 b=%x→H3 b=%x) (λ_ _ _=>False) (hr.make C us [])
  (I2.rQ.make C us []) (hb _ (Value.ref e::us) I2.kIn (by simp[hlu,hps])) r2 ?_) λrr s3 hq=>?_)
 ·r⟨e,t0,vs,by rw[List.append_nil],hl,Bi,λd H3 ne a1 a2 a3=>⟨rfl,d,ne,a1,a2,λb u q=>a3 b u (by rw[Ay (AN q nH1)];e q) (AN q nH1)⟩⟩
 ·cases rr with
  |error e'=>e &1E
  |ok fl=>
   cases fl with
   |ret u=>
    o⟨v,H3,I3,rv,ev,d,ne,a1,a2,a3⟩:=I2.after hq;subst ev;r⟨rv,?_⟩;o⟨sl,ho⟩:=aP I3 a1
    h I4:&O(upd H3 e (XO C d e))s3:=by
     h:=I3.write (x:=e) (e:=e) (o:=XO C d e) (t':=s3.toks) (h':=s3.heap) (by rw[a1];e True.intro) %U (λb u _ z=>z) ⟨_,ho⟩ (S7 ⟨_,_,ho,rfl,rfl,rfl,λ_=>rfl⟩ ⟨_,ho⟩ XcO.Jb);G
    e h e t0 d sl _ s3 ho I4 Bi (by rw[Ay ne];e a2) ne nH1 λb u q=>by rw[Ay (AN q nH1)];e a3 b u q
   |next=>e &1E
   |brk=>e &1E
   |cont=>e &1E
end
%dXU(C:Addr)(mk:%c→%1C)(n:Nat)(E:XK)(t:TA):TS:=λ_ σ H=>t σ H λvs H1=>vs.length=n∧∀e d H2,H2 e=some (XO C d e)→H2 d=%3td(mk vs)→d≠e→E ^d %0z H2
section
variable{X:Cx}{C fI:Addr}{fd:FuncData}{k n:Nat}{ps:List Str}{mk:List V→List (Str×V)}{E:XK}{x:Str}{p cpos pos:Pos}{e1:Expr}{es:List Expr}{t:TA}
%tfv(hX:∀ev s',XE X C E ev s'→X.xe ev s')(cl:C7 X.K C fI=true)(fn:%5kX.K fI=true)(kp:%1iX.K C=true)(F:FnN X.prog X.w X.K X.mg X.base k fI fd ps (spX C n mk))(hr:%9K)
 (hb:%0Yfd ps []) (hps:ps.length=n+1) (hz:n≤1000) (hg:Gl X x) (hm:%0X=%9Z) (ha:PA X (e1::es) t)
 (hdb:(x==("__debug__":Str))=false:=by decide) (he:%4u(e1::es)=(false,#Be1)::%1m:=by rfl) (hpl:(%6Des).any (·.1)=false:=by rfl):
 PS X (.Raise (some (&0jx p(e1::es)cpos)) none pos) (XU C mk n E t):=by
 D;j2;n9;e0;r &6BI.ok.mod.kin kp(thn (ha cpos pins s σ H _ I h) λus s1 ⟨vs,H1,I1,r,hl,w⟩=>⟨I1.kIn,?_⟩)he hpl;r g9 cl fn F hr.toN hb hps hz I1 r hl λe t0 d sl H4 s3 ho I4 a1 a2 ne _ _=>&0k%0R;o2
%tbA(hX:∀ev s',XE X C E ev s'→X.xe ev s')(cl:C7 X.K C fI=true)(fn:%5kX.K fI=true)(kp:%1iX.K C=true)(F:FnN X.prog X.w X.K X.mg X.base k fI fd ps (spX C 0 mk))(hr:%9K)
 (hb:%0Yfd ps []) (hps:ps.length=1) (hg:Gl X x) (hm:%0X=%9Z) (hdb:(x==("__debug__":Str))=false:=by decide):
 PS X (.Raise (some (&0jx p []cpos)) none pos) (XU C mk 0 E lT):=by
 D;j2;n9;e0;o⟨hl,w⟩:=h;r PySem.W.callWith_K0 I.kIn kp ?_;r g9 cl fn F hr.toN hb hps (by decide) I .nil hl λe t0 d sl H4 s3 ho I4 a1 a2 ne _ _=>&0k%0R;o2
end
%dPS0(X:Cx)(st:Stmt)(t:TS):Prop:=∀(s:Shared) (σ:St) (H:Hp) (D:Ends),Inv X [] σ H s→t D σ H→#i(exec st X.env)(SP X [] D)
%dOu(X:Cx)(st:%0V)(t:TS):Prop:=∀(s:Shared) (σ:St) (H:Hp) (D:Ends),Inv X [] σ H s→t D σ H→#i(execs st X.env)(SP X [] D)
%tPS.to0{X:Cx}{st:Stmt}{t:TS}(h:PS X st t):PS0 X st t:=λs σ H D I q=>h [] s σ H D I q
%tPSs.to0{X:Cx}{st:%0V}{t:TS}(h:PSs X st t):Ou X st t:=λs σ H D I q=>h [] s σ H D I q
%tWQ{X:Cx}{st:Stmt}{rest:%0V}{t u:TS}(h1:PS0 X st t)(h2:Ou X rest u):Ou X (st::rest) (sV t u):=by
 intro s σ H D I h;r wpAny_execs_cons (thn (h1 s σ H {D with nx:=u D} I h) λf s1 q=>?_)
 cases f with
 |next=>
  o⟨σ',H',I',q⟩:=q
  e h2 s1 σ' H' D I' q
 |ret v=>e q
 |brk=>e q
 |cont=>e q
%tPS0.imp{X:Cx}{e:Stmt}{t t':TS}(h:PS0 X e t)(k:∀D σ H,t' D σ H→t D σ H):PS0 X e t':=λs σ H Q I q=>h s σ H Q I (k Q σ H q)
%tOu.imp{X:Cx}{e:%0V}{t t':TS}(h:Ou X e t)(k:∀D σ H,t' D σ H→t D σ H):Ou X e t':=λs σ H Q I q=>h s σ H Q I (k Q σ H q)
%tOu.one{X:Cx}{e:Stmt}{t:TS}(h:PS0 X e t):Ou X [e] t:=by
 intro s σ H D I q;r wpAny_execs_cons (thn (h s σ H D I q) λf s1 q=>?_)
 cases f with
 |next=>e wpAny_execs_nil q
 |ret v=>e q
 |brk=>e q
 |cont=>e q
%dXH(X:Cx)(e:Addr)(xe:Value→Shared→Prop):Cx:={X with A:=&5ue,calm:=false,xe:=xe}
section
variable{X:Cx}{pins:List (Addr×Obj)}{σ:St}{H:Hp}{s:Shared}{e C d:Addr}{xe:Value→Shared→Prop}
%tInv.toH(I:%f):%1e(XH X e xe)σ H s:=
 have ok:=I.ok
 ⟨⟨ok.mod,ok.kind,ok.glob,ok.blt,ok.above,ok.inj,ok.has,ok.cab,λz=>&2A(show false=true from z),ok.frames,ok.stk,ok.exf,ok.bs,ok.bsz,ok.bK,ok.b5,ok.OV,ok.frf⟩,I.os,I.bare,I.base,I.loc,I.cell,I.free,I.Ia,I.pin,I.hok,I.len⟩
%tInv.ofH(ok:X.Ok)(I:%1e(XH X e xe)σ H s):%f:=⟨ok,I.os,I.bare,I.base,I.loc,I.cell,I.free,I.Ia,I.pin,I.hok,I.len⟩
%dxeH(X:Cx)(e:Addr):Value→Shared→Prop:=notedBy %6i (&5ue) X.env (cameBackBy %6i X.A X.env X.xe)
%tib{E:XK}{ev:Value}{s':Shared}(ok:X.Ok)(o:Own X)(hX:∀ev s',XE X C E ev s'→X.xe ev s')(x:XE (XH X e xe) C E ev s'):xeH X e ev s':=by
 o⟨σ,H',e1,d1,rfl,⟨I,he⟩,f,w⟩:=x;h x':XS X C e1 d1 σ H' s':=⟨I.ofH ok,he⟩;u xeH notedBy cameBackBy;r XF (X:=X) o ok.frames x' f λs'' x'' f'=>?_;e lN x'' f' λs3 x3 f3=>hX _ _ ⟨σ,H',e1,d1,rfl,x3,%4N_ f3,w⟩
end
%dXC(X:Cx)(C:Addr)(t:Expr)(b:Bool):Prop:=∀(E:Value→Shared→Prop) (Q:Bool→Shared→Prop) (s:Shared) (σ:St) (H:Hp) (e:Addr),Inv X [] σ H s→(∃oe,s.heap.get? e=some oe∧oe.cls=^d)→
 (∀h',(∀q o,s.heap.get? q=%b→h'.get? q=%b)→Inv X [] σ H {s with heap:=h'}→%5Tb)→
 %4x(#Bt)(λc s1=>%4x(excMatches #n c)Q E s1)E s
%tW2{M:Model}{h:Heap}{e:Addr}{c:Value}(x:∃oe,h.get? e=some oe∧oe.cls=c):PySem.W.Looks M h (typeOf #n) c:=by
 o⟨ob,hob,hc⟩:=x;subst hc;e(PySem.W.Looks.ld hob).andThen .now
section
variable{X:Cx}{C:Addr}{c c1 c2 c3:Value}{b:Bool}{x x1 x2 x3:Str}{p p1 p2 p3:Pos}{kk:Nat}
%taM(hg:Gl X x)(hm:%0X=&q)(he:PySem.W.exmOne X.K ^d c=some b)(hd:(x==("__debug__":Str))=false:=by decide):XC X C (%7qp) b:=λE Q s σ H e I hc q=>
 GQ I hg hm ((PySem.W.exm_one I.kIn (W2 hc) he).here (q s.heap (λ_ _ z=>z) I)) hd
%taL(g1:Gl X x1)(m1:X.mg x1=some c1)(g2:Gl X x2)(m2:X.mg x2=some c2)(g3:Gl X x3)(m3:X.mg x3=some c3)(he:PySem.W.exmAny X.K ^d [c1,c2,c3]=some b)
 (d1:(x1==("__debug__":Str))=false:=by decide) (d2:(x2==("__debug__":Str))=false:=by decide) (d3:(x3==("__debug__":Str))=false:=by decide):XC X C (.Tuple [.Name x1 p1,.Name x2 p2,.Name x3 p3] kk p) b:=λE Q s σ H e I hc q=>by
 r wpAny_Tuple ?_;r wpAny_items_cons (GQ I g1 m1 ?_ d1);r wpAny_items_cons (GQ I g2 m2 ?_ d2);r wpAny_items_cons (GQ I g3 m3 ?_ d3);r wpAny_items_nil ⟨by size_fits,?_⟩;h kp:∀q o,s.heap.get? q=%b→(s.heap.push {cls:=#M,data:=.seq [c1,c2,c3].toArray}).get? q=%b:=λ_ _ z=>%5cz;e(PySem.W.exm_tup3 (I.kIn.keeps kp) ((W2 hc).keeps kp) (&5Es.heap) he).here (q _ kp (I.kept (t':=s.toks) kp))
end
%tname_goes{X:Cx}{σ:St}{H:Hp}{s:Shared}{n:Str}{pos:Pos}{A:Around}{Q:Unit→Shared→Prop}{E:Value→Shared→Prop}(I:Inv X [] σ H s)(hl:X.env.kindOf n=%0U)
 (h:∀s',Inv X [] (%5Sσ.length) H s'→Q () s'):%3bA(do bindName X.env n .none;unbindBehindTheSuite X.env n pos)Q E s:=by
 o⟨m,hn,_⟩:=id I.loc;p4;r wpAny_nameGoes hl hn hcls λh' m' hn' hs=>h _ ?_;o⟨oL,_,_,hoL,_⟩:=id hn;r⟨I.ok,I.os,I.bare,⟨λb o e n hb hx=>?_,λb o e n hb hx=>?_,I.base.free,λb o e hx=>?_,I.base.Qp,I.base.OW,I.base.Qq⟩,⟨_,hn',λj y v' e1 e2 e3=>?_⟩,λy c e=>?_,I.free,I.Ia,λp hp=>?_,λb ob e=>?_,by simpa using I.len⟩
 ·e(hs.2 b (&1Ve)).trans (I.base.keep b o e n hb hx)
 ·g3;e⟨sl,(hs.2 b (&1Ve)).trans e1⟩
 ·e2;e⟨o',(hs.2 b (&1Ve)).trans e1⟩
 ·rw[List.getElem?_replicate] at e2;split at e2<;>c e2
 ·o⟨v,q⟩:=I.cell y c e;r⟨v,?_⟩;o⟨o,ho,hd⟩:=q;e⟨o,(hs.2 c (I.cne y c e)).trans ho,hd⟩
 ·o⟨p1,p2,p3,p4,p5⟩:=I.pin p hp;e⟨(hs.2 p.1 p3).trans p1,p2,p3,p4,p5⟩
 ·t5;intro z;rcases hc with w|w
  ·rw[←w,z,I.free] at e;d
  ·rw[z,I.free] at w;c w
%tWv:entryFor table "proto.unchain"=some Builtin.«proto.unchain»:=entryFor_of_tree (by kernel_rfl)
%tVX{prog:Program}{w:World}{A:Around}{E:Value→Shared→Prop}{s:Shared}{ev:Value}{h0:Addr}{oh:Obj}{vh:%0G}{Q:Value→Shared→Prop}(g:s.heap.get? h0=some oh)(hd:oh.data=.fields vh)(h2:vh[2]? =some .none)(h:Q .none s):
 #mw A(runValue (.builtin "proto.unchain" ⟨[ev,.ref h0,.ref h0,%7W],[]⟩))Q E s:=by
 r wpAny_runValue (codeAny_builtin Wv ?_);u Builtin.«proto.unchain»;a8;r &3jg hd h2 ?_;rw[if_pos (by decide)];e &0t
section
variable{prog:Program}{w:World}{A:Around}{E:Value→Shared→Prop}{env:Env}
variable{nm q:Str}{C N:Addr}{bs bm:List Value}{hdct:Bool}{sn:List Str}{sub:List Value}{ab:Bool}{col:Option Bool}{dd:Option Addr}{k0 k1 k2 k3 k5:Option Value}{newId:String}
%tYY{s:Shared}{x:%6e}{c:%6e}{h0:Addr}{Q:Flow→Shared→Prop}(hb:bm.contains &2L=true)(hh:A.handled=%eh0)(hc0:∀(R:Value→Shared→Prop) s,R .none s→#mw A c R E s)
 (h:wpAny %3v A x (λv s1=>∃e t d sl oh vh,v=#n∧s1.heap.get? C=some (excClassObj nm q C N bs bm hdct sn sub ab col dd k0 k1 k2 k3 k5 newId)∧
   s1.heap.get? e=some {cls:=^d,dict:=%0z,data:=.fields #[.ref t,.none,.none,.none,%7W,.none],slots:=sl}∧s1.heap.get? h0=some oh∧oh.data=.fields vh∧vh[2]? =some .none∧h0≠e∧
   ∀h',&3O=some {cls:=^d,dict:=%0z,data:=.fields #[.ref t,.none,.ref h0,.none,.bool true,.none],slots:=sl}→(∀b o,b≠e→s1.heap.get? b=%b→#Q=%b)→E #n {s1 with heap:=h'}) E s):
 #mw A(raiseStmt env %v &q)Q E s:=by
 h hcm:(Value.ref C::bm).contains &2L=true:=by rw[List.contains_cons,hb,Bool.or_true]
 w0;o⟨e,t,d,sl,oh,vh,rfl,hC,he,g0,gd,g2,ne,hE⟩:=h1;a8;r wpAny_bind (wpAny_holding (hc0 _ _ %5h));o⟨hp,g,dr,tk,os⟩:=s1
 h neC:C≠e:=λz=>by
  y;h:=hC.symm.trans he;c this
 r wpAny_bind (wpAny_mono (Q:=λv s2=>v=#n∧s2=⟨hp,g,dr,tk,os⟩) ?_ (λv s2 h2=>?_) λ_ _ z=>z)
 ·r wpAny_holding ?_;u excFromValue
  repeat (first|with_reducible r %5ghe|with_reducible r %5ghC|(with_reducible r &6ohC;rw[hcm])|wp_step)
  all_goals e⟨rfl,rfl⟩
 o⟨rfl,rfl⟩:=h2;a8;rw[if_pos (by decide)];r %8X(&4Ihe rfl(by show 3<6;decide)?_);h e1:=Heap.get?_update_self (Obj.mapFields (·.setIfInBounds 3 Value.none)) he (by rfl);h o1:∀b,b≠e→(hp.update e (Obj.mapFields (·.setIfInBounds 3 Value.none))).get? b=hp.get? b:=λb hb=>&2G_ _ hb;dsimp only at e1 ⊢;generalize hp.update e (Obj.mapFields (·.setIfInBounds 3 Value.none))=hp1 at e1 o1 ⊢;h e1:hp1.get? e=some {cls:=^d,dict:=%0z,data:=.fields #[.ref t,.none,.none,.none,%7W,.none],slots:=sl}:=e1;r &4Ie1 rfl(by show 4<6;decide)?_;h e2:=Heap.get?_update_self (Obj.mapFields (·.setIfInBounds 4 (Value.bool true))) e1 (by rfl);h o2:∀b,b≠e→(hp1.update e (Obj.mapFields (·.setIfInBounds 4 (Value.bool true)))).get? b=hp1.get? b:=λb hb=>&2G_ _ hb;dsimp only at e2 ⊢;generalize hp1.update e (Obj.mapFields (·.setIfInBounds 4 (Value.bool true)))=hp2 at e2 o2 ⊢;h e2:hp2.get? e=some {cls:=^d,dict:=%0z,data:=.fields #[.ref t,.none,.none,.none,.bool true,.none],slots:=sl}:=e2;h hC2:hp2.get? C=some (excClassObj nm q C N bs bm hdct sn sub ab col dd k0 k1 k2 k3 k5 newId):=(o2 C neC).trans ((o1 C neC).trans hC);h g2':hp2.get? h0=some oh:=(o2 h0 ne).trans ((o1 h0 ne).trans g0)
 repeat (first|with_reducible r %5ge2|with_reducible r %5ghC2|(with_reducible r &6ohC2;rw[hcm])|wp_step)
 u raiseNew;r wpAny_bind (wpAny_handled ?_);rw[hh];a8;rw[if_pos (show(Value.ref h0 != Value.ref e)=true from by simp[ne])];r wpAny_bind (wpAny_holding (VX g2' gd g2 ?_));r wpAny_bind (wpAny_setField (a:=e) e2 rfl (by show 2<6;decide) ?_);h e3:=Heap.get?_update_self (Obj.mapFields (·.setIfInBounds 2 (Value.ref h0))) e2 (by rfl);h o3:∀b,b≠e→(hp2.update e (Obj.mapFields (·.setIfInBounds 2 (Value.ref h0)))).get? b=hp2.get? b:=λb hb=>&2G_ _ hb;e wpAny_throw (hE _ e3 λb o hb z=>(o3 b hb).trans ((o2 b hb).trans ((o1 b hb).trans z)))
end
section
variable{X:Cx}{C C0 fI e d0:Addr}{fd:FuncData}{k:Nat}{ps:List Str}{mk:List V→List (Str×V)}{E:XK}{x:Str}{p cpos pos p2:Pos}{j:Nat}{σ:St}{H:Hp}{s:Shared}
%tip{H:Hp}{a:Addr}{o:HO}(h:&Q=%b):%Ya o=H:=by
 funext b;u upd;by_cases z:b=a
 ·rw[if_pos z,z,h]
 ·rw[if_neg z]
%tqp(o:Own X)(hX:∀ev s',XE X C E ev s'→X.xe ev s')(cl:C7 X.K C fI=true)(fn:%5kX.K fI=true)(kp:%1iX.K C=true)(F:FnN X.prog X.w X.K X.mg X.base k fI fd ps (spX C 0 mk))(hr:IJ (k+1) X.A)
 (hb:%0Yfd ps []) (hps:ps.length=1) (hg:Gl X x) (hm:%0X=%9Z) (hnc:NC.nc C0) (hnc':¬NC.nc C) (I:Inv X [] σ H s) (he:H e=some (XO C0 d0 e)) (hE:∀d H',H' d=%3td(mk [])→E ^d %0z H')
 (hdb:(x==("__debug__":Str))=false:=by decide):
 %3b(&5ue)(execs [.Raise (some (&0jx p []cpos)) (some (%8q.none p2)) pos] X.env)(λ_ _=>False)(xeH X e)s:=by
 r wpAny_execs_cons ?_;j2;h J:Inv (XH X e (xeH X e)) [] σ H s:=I.toH;r &0k(YY (C:=C) (h0:=e) (nm:=nm) (q:=q) (N:=N) (bs:=bs) (bm:=bmV) (hdct:=true) (sn:=sn) (sub:=sub) (ab:=ab) (col:=col) (dd:=dd) (k0:=k0) (k1:=k1) (k2:=k2) (k3:=k3) (k5:=k5) (newId:="ValueError.__new__") (by decide+kernel) rfl (λR s hR=>?_) ?_)
 ·e wpAny_bind (Constant_none (&0k(wpAny_pure hR)))
 r wpAny_bind (wpAny_mono (Q:=λv s1=>%3b(&5ue)(do standAt pos;pure v)_ _ s1) ?_ (λv s3 h3=>h3) λ_ _ z=>z);r wpAny_Call_Name_kw (GQ (X:=XH X e (xeH X e)) J hg hm ?_ hdb);r PySem.W.callWith_K0 J.kIn kp ?_;r g9 (X:=XH X e (xeH X e)) cl fn F ⟨hr.dp,hr.un⟩ hb hps (by decide) J .nil rfl λe1 t0 d sl H4 s3 ho I4 a1 a2 ne nH1 a3=>&0k%0R;h he4:=a3 e _ he;o⟨vs,oe,g1,c1,d1,da,nc⟩:=(show C2 X.prog X.w H4 s3.heap e (XO C0 d0 e) from I4.hok e _ he4).1;h ne1:e≠e1:=λz=>by rw[z,nH1] at he;c he
 r⟨e1,t0,d,sl,oe,vs,rfl,I4.bk _ _ hC,ho,g1,da,nc hnc,ne1,λh' g2 k'=>?_⟩
 h I5:Inv (XH X e (xeH X e)) [] σ H4 {s3 with heap:=h'}:=by
  h:=I4.write (x:=e1) (e:=e1) (o:=XO C d e1) (t':=s3.toks) (h':=h') (by rw[a1];e True.intro) %U k' ⟨_,g2⟩ (S7 ⟨_,_,g2,rfl,rfl,rfl,λz=>absurd z hnc'⟩ ⟨_,g2⟩ XcO.Jb)
  rwa[ip a1] at this
 e ib I.ok o hX ⟨σ,H4,e1,d,rfl,⟨I5,a1⟩,.inl (%9d_⟨_,g2,rfl,rfl,rfl,λz=>absurd z hnc'⟩),hE d H4 a2⟩
end
end L2
namespace L2
namespace G
open PySem PySem.Spec PyProof.Rows
variable [NC]
inductive W where
 |non|bl (b:Bool)|int (i:Int)|str (x:Str)|ref (i:Nat)
 |lst (xs:%m)|arg (xs:%m)|tup (xs:%m)|ktp (xs:%m)|kd (kvs:&u)|fn (x:Str)|xc (c:Str) (fs:#x)
inductive O where
 |lst (xs:%m)|dct (kvs:&u)|ins (c:Str) (fs:%3S)
 |hole
structure Wd where
 P:Program
 w:World
 K:PySem.W.Frag
 cls:Str→%0v
 xcl:Str→%0v
 fn:Str→%0v
%dKDc(K:PySem.W.Frag)(P:Program)(w:World)(a:Addr)(kvs:#E):Prop:=∀h:Heap,%6m→(a==sysModules)=false∧kvs.length≤sizeLine∧∃us,KV kvs us∧h.DictOf (Ci P w) a us
mutual
inductive RW(g:Wd)(F:Hp)(m:Nat→Addr)(n:Nat):W→V→Prop
 |non:RW g F m n .non .non
 |bl {b:Bool}:RW g F m n %7A %7A
 |int {i:Int}:RW g F m n ^x ^x
 |str {x:Str}:RW g F m n %0J %0J
 |ref {i:Nat} (h:i<n):RW g F m n (.ref i) (.ref (m i))
 |lst {xs:%m} {a:Addr} {vs:%c} (h:F a=%Vvs) (r:^eg F m n):RW g F m n %9D %N
 |arg {xs:%m} {a:Addr} {vs:%c} (h:SqL g.K F a vs) (r:^eg F m n):RW g F m n (.arg xs) %N
 |tup {xs:%m} {a:Addr} {vs:%c} (h:F a=%3Jvs) (r:^eg F m n):RW g F m n (.tup xs) %N
 |ktp {xs:%m} {a:Addr} {vs:%c} {o:Obj} {its:%0G} {k:Nat} (h:g.K.lookup a=%b) (hc:o.cls=#M) (hd:o.dict=none) (ho:o.data=.seq its k) (hz:its.size≤sizeLine) (hv:Vals vs its.toList) (r:^eg F m n):RW g F m n (.ktp xs) %N
 |kd {kvs:&u} {a:Addr} {vs:#E} (h:KDc g.K g.P g.w a vs) (hk:kvs.map (·.1)=vs.map (·.1)) (r:RWs g F m n (kvs.map (·.2)) (vs.map (·.2))):RW g F m n (.kd kvs) %N
 |fn {x:Str} {a:Addr} (h:g.fn x=&1i):RW g F m n (.fn x) %N
 |xc {c:Str} {fs:#x} {C e d:Addr} (h:^K=#h) (h1:F e=some (XO C d e)) (h2:F d=%3td(fs.map λp=>(p.1,%7e))):RW g F m n (.xc c fs) #n
inductive RWs(g:Wd)(F:Hp)(m:Nat→Addr)(n:Nat):%m→%c→Prop
 |nil:RWs g F m n [] []
 |cons {x:W} {v:V} {xs:%m} {vs:%c} (h:RW g F m n x v) (r:^eg F m n):RWs g F m n (x::xs) (v::vs)
end
structure Le(F:Hp)(m:Nat→Addr)(n:Nat)(F':Hp)(m':Nat→Addr)(n':Nat):Prop where
 fr:∀a o,F a=%b→F' a=%b
 le:n≤n'
 ad:∀i,i<n→m' i=m i
%tLe.refl{F:Hp}{m:Nat→Addr}{n:Nat}:Le F m n F m n:=⟨λ_ _ h=>h,%L,λ_ _=>rfl⟩
%tLe.trans{F F1 F2:Hp}{m m1 m2:Nat→Addr}{n n1 n2:Nat}(a:Le F m n F1 m1 n1)(b:Le F1 m1 n1 F2 m2 n2):Le F m n F2 m2 n2:=
 ⟨λx o h=>b.fr x o (a.fr x o h),Nat.le_trans a.le b.le,λi h=>(b.ad i (Nat.lt_of_lt_of_le h a.le)).trans (a.ad i h)⟩
%tLe.zero{F:Hp}{m m':Nat→Addr}{n:Nat}:Le (λ_=>none) m' 0 F m n:=⟨λ_ _ h=>(by c h),#q,λ_ h=>%7Mh _⟩
%tZb{K:PySem.W.Frag}{F F':Hp}{a:Addr}{vs:%c}(k:∀a o,F a=%b→F' a=%b)(h:SqL K F a vs):SqL K F' a vs:=by
 n7
 ·e .inl (.inl (k _ _ h))
 ·e .inl (%4No(k _ _ h))
 ·e .inr h
section
variable{g:Wd}{F F':Hp}{m m':Nat→Addr}{n n':Nat}
mutual
%tRW.mono(l:Le F m n F' m' n'):∀{x:W} {v:V},RW g F m n x v→RW g F' m' n' x v
 |_,_,.non=>.non
 |_,_,.bl=>.bl
 |_,_,.int=>.int
 |_,_,.str=>.str
 |_,_,.ref h=>by rw[←l.ad _ h];e .ref (Nat.lt_of_lt_of_le h l.le)
 |_,_,.lst h r=>.lst (l.fr _ _ h) (RWs.mono l r)
 |_,_,.arg h r=>.arg (Zb l.fr h) (RWs.mono l r)
 |_,_,.tup h r=>.tup (l.fr _ _ h) (RWs.mono l r)
 |_,_,.ktp h hc hd ho hz hv r=>.ktp h hc hd ho hz hv (RWs.mono l r)
 |_,_,.kd h hk r=>.kd h hk (RWs.mono l r)
 |_,_,.fn h=>.fn h
 |_,_,.xc h h1 h2=>.xc h (l.fr _ _ h1) (l.fr _ _ h2)
%tRWs.mono(l:Le F m n F' m' n'):∀{xs:%m} {vs:%c},^eg F m n→RWs g F' m' n' xs vs
 |_,_,.nil=>.nil
 |_,_,%7B=>.cons (RW.mono l h) (RWs.mono l r)
end
%tRWs.length:∀{xs:%m} {vs:%c},^eg F m n→xs.length=vs.length
 |_,_,.nil=>rfl
 |_,_,.cons _ r=>by rw[List.length_cons,List.length_cons,RWs.length r]
%tRWs.get:∀{xs:%m} {vs:%c} {i:Nat} {x:W},^eg F m n→xs[i]? =%v→∃v,vs[i]? =%W∧RW g F m n x v
 |_,_,_,_,.nil,e=>by simp at e
 |_,_,0,_,&0O_,e=>by simp at e;subst e;e⟨_,rfl,h⟩
 |_,_,i+1,x,.cons _ r,e=>by
  o⟨v,h1,h2⟩:=RWs.get (i:=i) (x:=x) r (by simpa using e);e⟨v,by simpa using h1,h2⟩
%tRWs.append:∀{xs ys:%m} {us vs:%c},RWs g F m n xs us→RWs g F m n ys vs→RWs g F m n (xs++ys) (us++vs)
 |_,_,_,_,.nil,s=>s
 |_,_,_,_,%7B,s=>&0O(RWs.append r s)
%tRWs.take:∀{xs:%m} {vs:%c} (k:Nat),^eg F m n→RWs g F m n (xs.take k) (vs.take k)
 |_,_,0,_=>.nil
 |_,_,_+1,.nil=>.nil
 |_,_,k+1,%7B=>&0O(RWs.take k r)
%tRWs.drop:∀{xs:%m} {vs:%c} (k:Nat),^eg F m n→RWs g F m n (xs.drop k) (vs.drop k)
 |_,_,0,r=>r
 |_,_,_+1,.nil=>.nil
 |_,_,k+1,.cons _ r=>RWs.drop k r
%tRWs.one{x:W}{v:V}(h:RW g F m n x v):RWs g F m n [x] [v]:=%4Ph
end
inductive RK(g:Wd)(F:Hp)(m:Nat→Addr)(n:Nat){κ:Type}:%8f→#P→Prop
 |nil:RK g F m n [] []
 |cons {k:κ} {x:W} {v:V} {xs:%8f} {vs:#P} (h:RW g F m n x v) (r:RK g F m n xs vs):RK g F m n ((k,x)::xs) ((k,v)::vs)
%tRK.mono{g:Wd}{F F':Hp}{m m':Nat→Addr}{n n':Nat}{κ:Type}(l:Le F m n F' m' n'):∀{xs:%8f} {vs:#P},RK g F m n xs vs→RK g F' m' n' xs vs
 |_,_,.nil=>.nil
 |_,_,%7B=>.cons (h.mono l) (RK.mono l r)
%tRK.length{g:Wd}{F:Hp}{m:Nat→Addr}{n:Nat}{κ:Type}:∀{xs:%8f} {vs:#P},RK g F m n xs vs→xs.length=vs.length
 |_,_,.nil=>rfl
 |_,_,.cons _ r=>by rw[List.length_cons,List.length_cons,RK.length r]
inductive RO(g:Wd)(F:Hp)(m:Nat→Addr)(n:Nat):O→HO→Prop
 |lst {xs:%m} {vs:%c} (r:^eg F m n):RO g F m n %9D (.lst vs)
 |dct {kvs:&u} {vs:#E} (r:RK g F m n kvs vs):RO g F m n %3W %6d
 |ins {c:Str} {C dx:Addr} {fs:%3S} {vs:%1C} (h:%9E=#h) (r:RK g F m n fs vs):RO g F m n (.ins c fs) (.ins C dx vs)
 |hole {u:HO}:RO g F m n .hole u
%tRO.mono{g:Wd}{F F':Hp}{m m':Nat→Addr}{n n':Nat}(l:Le F m n F' m' n'){o:O}{u:HO}(h:RO g F m n o u):RO g F' m' n' o u:=by
 cases h with
 |lst r=>e .lst (r.mono l)
 |dct r=>e .dct (r.mono l)
 |ins h r=>e .ins h (r.mono l)
 |hole=>e .hole
structure Rep(g:Wd)(F:Hp)(m:Nat→Addr)(h:%a)(H:Hp):Prop where
 frz:∀a o,F a=%b→&Q=%b
 out:∀i,i<h.length→h[i]?≠&2c→F (m i)=none
 inj:∀i j,i<h.length→j<h.length→m i=m j→i=j
 obj:∀i o,h[i]? =%b→∃u,H (m i)=%x∧RO g F m h.length o u
inductive Res(α:Type) where
 |ok (a:α) (h:%a)|exc (c:Str) (fs:#x)|bad
%dRes.bind{α β:Type}:%4h→(α→%a→%8w)→Res β
 |.ok a h,k=>k a h
 |.exc c fs,_=>%5a
 |.bad,_=>.bad
abbrev Sa:=List &F
inductive SR where
 |nx (σ:Sa) (h:%a)|rt (v:W) (h:%a)|exc (c:Str) (fs:#x)|bad
%dSR.bind:SR→(Sa→%a→SR)→SR
 |.nx σ h,k=>k σ h
 |.rt v h,_=>.rt v h
 |.exc c fs,_=>%5a
 |.bad,_=>.bad
%dRes.st{α:Type}:%4h→(α→%a→SR)→SR
 |.ok a h,k=>k a h
 |.exc c fs,_=>%5a
 |.bad,_=>.bad
%dEX(g:Wd)(E:XK)(c:Str)(fs:#x):Prop:=∃C,^K=#h∧∀d H',H' d=%3td(fs.map λp=>(p.1,%7e))→E ^d %0z H'
%dpost(g:Wd)(E:XK){α β:Type}(R:Hp→(Nat→Addr)→Nat→α→β→Prop)(F:Hp)(m:Nat→Addr)(n:Nat)(r:%4h)(Q:β→Hp→Prop):Prop:=match r with
 |.ok a h'=>∀F' m' H' b,Le F m n F' m' h'.length→#KF' m' h' H'→R F' m' h'.length a b→Q b H'
 |.exc c fs=>EX g E c fs
 |.bad=>False
%tAD{g:Wd}{E:XK}{α β γ δ:Type}{R:Hp→(Nat→Addr)→Nat→α→β→Prop}{S:Hp→(Nat→Addr)→Nat→γ→δ→Prop}{F:Hp}{m:Nat→Addr}{n:Nat}{r:%4h}{k:α→%a→Res γ}{Q:δ→Hp→Prop}{Q1:β→Hp→Prop}
 (h:post g E S F m n %8j Q) (hk:∀a h1 F1 m1 H1 b,Le F m n F1 m1 h1.length→#KF1 m1 h1 H1→R F1 m1 h1.length a b→post g E S F1 m1 h1.length (k a h1) Q→Q1 b H1):post g E R F m n r Q1:=by
 cases r with
 |ok a h1=>
  intro F1 m1 H1 b l rp rr;r hk a h1 F1 m1 H1 b l rp rr ?_;show post g E S F1 m1 h1.length (k a h1) Q;h h:post g E S F m n (k a h1) Q:=h
  cases e:k a h1 with
  |ok c h2=>rw[e] at h;e λF2 m2 H2 d l2=>h F2 m2 H2 d &5h
  |exc c fs=>rw[e] at h;e h
  |bad=>rw[e] at h;e h
 |exc c fs=>e h
 |bad=>e h
%dFW(g:Wd)(E:XK)(RS:Hp→(Nat→Addr)→Nat→Sa→St→Prop)(F:Hp)(m:Nat→Addr)(n:Nat)(r:SR)(D:Ends):Prop:=match r with
 |.nx σ h'=>∀F' m' H' τ,Le F m n F' m' h'.length→#KF' m' h' H'→RS F' m' h'.length σ τ→D.nx τ H'
 |.rt v h'=>∀F' m' H' b,Le F m n F' m' h'.length→#KF' m' h' H'→RW g F' m' h'.length v b→D.rt b H'
 |.exc c fs=>EX g E c fs
 |.bad=>False
%tGq{g:Wd}{E:XK}{RS:Hp→(Nat→Addr)→Nat→Sa→St→Prop}{F F1:Hp}{m m1:Nat→Addr}{n n1:Nat}{r:SR}{D:Ends}(l:Le F m n F1 m1 n1)(h:FW g E RS F m n r D):FW g E RS F1 m1 n1 r D:=by
 cases r with
 |nx σ h2=>e λF2 m2 H2 d l2=>h F2 m2 H2 d &5h
 |rt v h2=>e λF2 m2 H2 d l2=>h F2 m2 H2 d &5h
 |exc c fs=>e h
 |bad=>e h
%tWR{g:Wd}{E:XK}{α β:Type}{R:Hp→(Nat→Addr)→Nat→α→β→Prop}{F F1:Hp}{m m1:Nat→Addr}{n n1:Nat}{r:%4h}{Q:β→Hp→Prop}(l:Le F m n F1 m1 n1)(h:post g E R F m n r Q):post g E R F1 m1 n1 r Q:=by
 cases r with
 |ok a h2=>e λF2 m2 H2 d l2=>h F2 m2 H2 d &5h
 |exc c fs=>e h
 |bad=>e h
%tCL{g:Wd}{E:XK}{α β:Type}{R:Hp→(Nat→Addr)→Nat→α→β→Prop}{RS:Hp→(Nat→Addr)→Nat→Sa→St→Prop}{F:Hp}{m:Nat→Addr}{n:Nat}{r:%4h}{k:α→%a→SR}{D:Ends}{Q1:β→Hp→Prop}
 (h:FW g E RS F m n (r.st k) D) (hk:∀a h1 F1 m1 H1 b,Le F m n F1 m1 h1.length→#KF1 m1 h1 H1→R F1 m1 h1.length a b→FW g E RS F1 m1 h1.length (k a h1) D→Q1 b H1):post g E R F m n r Q1:=by
 cases r with
 |ok a h1=>e λF1 m1 H1 b l rp rr=>hk a h1 F1 m1 H1 b l rp rr (Gq l h)
 |exc c fs=>e h
 |bad=>e h
%dRN(g:Wd)(F:Hp)(m:Nat→Addr)(n:Nat)(σ:Sa)(τ:St):Prop:=σ.length=τ.length∧∀(i:Nat) (x:W),σ[i]? =&5q→∃v,τ[i]? =&1T∧RW g F m n x v
%tRN.mono{g:Wd}{F F':Hp}{m m':Nat→Addr}{n n':Nat}{σ:Sa}{τ:St}(l:Le F m n F' m' n')(h:RN g F m n σ τ):RN g F' m' n' σ τ:=
 ⟨h.1,λi x e=>let⟨v,a,b⟩:=h.2 i x e;⟨v,a,b.mono l⟩⟩
%tRN.set{g:Wd}{F:Hp}{m:Nat→Addr}{n:Nat}{σ:Sa}{τ:St}{x:W}{v:V}(i:Nat)(h:RN g F m n σ τ)(r:RW g F m n x v):RN g F m n (%8o%v) (&1W%W):=by
 r⟨by rw[List.length_set,List.length_set];e h.1,λj y e=>?_⟩;f4
 ·subst hj;rw[List.getElem?_set] at e;z
  ·z
   ·rename_i _ hl;d;e⟨v,by rw[List.getElem?_set,%9l,if_pos (by rw[←h.1];e hl)],r⟩
   ·d
  ·T;e ^Uq
 ·m9;o⟨v',a,b⟩:=h.2 j y e;e⟨v',by rw[List.getElem?_set_ne &1P];e a,b⟩
abbrev FE:=Sa→%a→%p
abbrev FT:=Sa→%a→Res Bool
abbrev FA:=Sa→%a→Res %m
abbrev FS:=Sa→%a→SR
abbrev FF:=%m→%a→%p
%dRB(_:Hp)(_:Nat→Addr)(_:Nat)(a b:Bool):Prop:=a=b
section
variable(g:Wd)(E:XK)
%dwE(f:FE):TE:=λτ H Q=>∃F m h σ,&C∧%5Gg F m σ τ∧^ug E%1t F m(f σ h)Q
%dwT(f:FT):TT:=λτ H Q=>∃F m h σ,&C∧%5Gg F m σ τ∧^ug E RB F m(f σ h)Q
%dwA(f:FA):TA:=λτ H Q=>∃F m h σ,&C∧%5Gg F m σ τ∧^ug E(RWs g)F m(f σ h)Q
%dwS(f:FS):TS:=λD τ H=>∃F m h σ,&C∧%5Gg F m σ τ∧FW g E %4Y F m h.length (f σ h) D
%dwF(k:Nat)(f:FF):Sp:=λvs H Q E=>∃F m h xs,&C∧%7ug F m∧xs.length=k∧^ug E%1t F m(f xs h)Q
end
end G
end L2
namespace L2
namespace G
open PySem PySem.Spec PyProof.Rows
variable [NC]
section
variable{g:Wd}{F:Hp}{m:Nat→Addr}{h:List O}{H:Hp}{p:Addr}
%tRep.has(R:&C){i:Nat}(hi:i<h.length):∃u,H (m i)=%x:=by
 o⟨u,e,_⟩:=R.obj i h[i] %3D;e⟨u,e⟩
%tLe.frz{F:Hp}{m:Nat→Addr}{n:Nat}{p:Addr}{o:HO}(e:F p=none):Le F m n (upd F p o) m n:=⟨λa u q=>by rw[Ay (AN q e)];e q,%L,λ_ _=>rfl⟩
%tRep.TU(R:&C)(hp:%0q=none):F p=none:=by
 cases e:F p with
 |none=>rfl
 |some o=>rw[R.frz p o e] at hp;c hp
%tRep.ny(R:&C){o:HO}(hp:%0q=none):#K(upd F p o)m h(%Yp o):=by
 h l:Le F m h.length (upd F p o) m h.length:=.frz (R.TU hp);r⟨λa u e=>?_,λi hi hh=>?_,R.inj,λi o' e=>?_⟩
 ·by_cases ha:a=p
  ·subst ha;rw[Bi] at e ⊢;e e
  ·rw[Ay ha] at e ⊢;e R.frz a u e
 ·o⟨u,e⟩:=R.has hi;rw[Ay (AN e hp)];e R.out i hi hh
 ·o⟨u,e1,e2⟩:=R.obj i o' e;e⟨u,by rw[Ay (AN e1 hp)];e e1,e2.mono l⟩
%dext(m:Nat→Addr)(n:Nat)(p:Addr):Nat→Addr:=λi=>if i=n then p else m i
%tFv{m:Nat→Addr}{n:Nat}{p:Addr}:ext m n p n=p:=%9l
%tQg{m:Nat→Addr}{n i:Nat}{p:Addr}(h:i<n):ext m n p i=m i:=if_neg (Nat.ne_of_lt h)
%tLe.new{F:Hp}{m:Nat→Addr}{n:Nat}{p:Addr}:Le F m n F (ext m n p) (n+1):=⟨λ_ _ e=>e,Nat.le_succ _,λi hi=>Qg hi⟩
%tRep.fQ(R:&C){o:O}{u:HO}(hp:%0q=none)(r:RO g F m h.length o u):#KF(ext m h.length p)(h++[o])(%Yp u):=by
 h hl:(h++[o]).length=h.length+1:=by simp
 h cs:∀i,i<(h++[o]).length→i<h.length∨i=h.length:=λi hi=>by rw[hl] at hi;omega
 r⟨λa u e=>by rw[Ay (AN (R.frz a u e) hp)];e R.frz a u e,λi hi hh=>?_,λi j hi hj e=>?_,λi o' e=>?_⟩
 ·rcases cs i hi with z|rfl
  ·rw[Qg z];e R.out i z (by rwa[List.getElem?_append_left z] at hh)
  ·rw[Fv];e R.TU hp
 ·rcases cs i hi with z|rfl
  ·o⟨u1,e1⟩:=R.has z;rcases cs j hj with y|rfl
   ·rw[Qg z,Qg y] at e;e R.inj i j z y e
   ·rw[Qg z,Fv] at e;e absurd e (AN e1 hp)
  ·rcases cs j hj with y|rfl
   ·o⟨u1,e1⟩:=R.has y;rw[Qg y,Fv] at e;e absurd e.symm (AN e1 hp)
   ·a
 ·rw[hl];by_cases z:i<h.length
  ·rw[List.getElem?_append_left z] at e;o⟨u1,e1,e2⟩:=R.obj i o' e;e⟨u1,by rw[Qg z,Ay (AN e1 hp)];e e1,e2.mono .new⟩
  ·rw[List.getElem?_append_right (Nat.le_of_not_lt z)] at e
   h hi:i=h.length:=by
    by_cases q:i-h.length=0
    ·b
    ·rw[List.getElem?_cons,%3V] at e;simp at e
   subst hi;simp at e;p;e⟨u,by rw[Fv,Bi],r.mono .new⟩
%tRep.bg(R:&C){i:Nat}{o:O}{u:HO}(hi:i<h.length)(hh:h[i]?≠&2c)(r:RO g F m h.length o u):#KF m(h.set i o)(%Y(m i)u):=by
 r⟨λa u e=>?_,λj hj hx=>(by
  by_cases z:j=i
  ·w;e R.out i hi hh
  ·rw[List.getElem?_set_ne &5A] at hx;e R.out j (by simpa using hj) hx),λj k hj hk=>R.inj j k (by simpa using hj) (by simpa using hk),λj o' e=>?_⟩
 ·rw[Ay (λq=>by rw[q,R.out i hi hh] at e;c e)];e R.frz a u e
 ·a1;f4
  ·subst hj;rw[List.getElem?_set_self hi] at e;d;e⟨u,Bi,r⟩
  ·m9;o⟨u1,e1,e2⟩:=R.obj j o' e;h hjl:j<h.length:=&4n.1;e⟨u1,by rw[Ay (λq=>hj (R.inj j i hjl hi q))];e e1,e2⟩
end
%dAd2(g:Wd)(f:W→W→%a→%p)(r:R2):Prop:=∀(F:Hp) (m:Nat→Addr) (h:%a) (H:Hp) (x y:W) (v u:V) (Q:VK) (E:XK),&C→^Wg F m x v→^Wg F m y u→^ug E%1t F m(f x y h)Q→r v u H Q
%dAd1(g:Wd)(f:W→%a→%p)(r:V→Hp→VK→Prop):Prop:=∀(F:Hp) (m:Nat→Addr) (h:%a) (H:Hp) (x:W) (v:V) (Q:VK) (E:XK),&C→^Wg F m x v→^ug E%1t F m(f x h)Q→r v H Q
%dAdN(g:Wd)(f:%m→%a→%p)(r:%c→Hp→VK→Prop):Prop:=∀(F:Hp) (m:Nat→Addr) (h:%a) (H:Hp) (xs:%m) (vs:%c) (Q:VK) (E:XK),&C→%7ug F m→^ug E%1t F m(f xs h)Q→r vs H Q
end G
end L2
namespace L2
open PySem PySem.Spec PyProof.Rows
%tPE.imp{X:Cx}{e:Expr}{t t':TE}(h:%ke t)(k:∀σ H Q,t' σ H Q→t σ H Q):%ke t':=λpins s σ H Q I q=>h pins s σ H Q I (k σ H Q q)
%tPT.imp{X:Cx}{e:Expr}{t t':TT}(h:PT X e t)(k:∀σ H Q,t' σ H Q→t σ H Q):PT X e t':=λpins s σ H Q I q=>h pins s σ H Q I (k σ H Q q)
%tPW.imp{X:Cx}{e:Expr}{t t':TT}(h:PW X e t)(k:∀σ H Q,t' σ H Q→t σ H Q):PW X e t':=λw pins s σ H Q I q=>h w pins s σ H Q I (k σ H Q q)
%tPA.imp{X:Cx}{es:%0i}{t t':TA}(h:PA X es t)(k:∀σ H Q,t' σ H Q→t σ H Q):PA X es t':=λp pins s σ H Q I q=>h p pins s σ H Q I (k σ H Q q)
%tPS.imp{X:Cx}{e:Stmt}{t t':TS}(h:PS X e t)(k:∀D σ H,t' D σ H→t D σ H):PS X e t':=λpins s σ H Q I q=>h pins s σ H Q I (k Q σ H q)
%tPSs.imp{X:Cx}{e:%0V}{t t':TS}(h:PSs X e t)(k:∀D σ H,t' D σ H→t D σ H):PSs X e t':=λpins s σ H Q I q=>h pins s σ H Q I (k Q σ H q)
namespace G
open PySem PySem.Spec PyProof.Rows
variable [NC]
abbrev DE(g:Wd)(E:XK)(X:Cx)(e:Expr)(f:FE):Prop:=%ke(wE g E f)
abbrev DT(g:Wd)(E:XK)(X:Cx)(e:Expr)(f:FT):Prop:=PT X e (wT g E f)
abbrev DW(g:Wd)(E:XK)(X:Cx)(e:Expr)(f:FT):Prop:=PW X e (wT g E f)
abbrev DA(g:Wd)(E:XK)(X:Cx)(es:%0i)(f:FA):Prop:=PA X es (wA g E f)
abbrev DS(g:Wd)(E:XK)(X:Cx)(st:Stmt)(f:FS):Prop:=PS X st (wS g E f)
abbrev DSs(g:Wd)(E:XK)(X:Cx)(st:%0V)(f:FS):Prop:=PSs X st (wS g E f)
%dfC(v:W):FE:=λ_ h=>%8D
%dfV(i:Nat):FE:=λσ h=>match σ[i]? with|some %W=>%8D|_=>.bad
%dfUn(o:W→%a→%p)(a:FE):FE:=λσ h=>(a σ h).bind o
%dAm(o:W→W→%a→%p)(a b:FE):FE:=λσ h=>(a σ h).bind λx h1=>(b σ h1).bind λy h2=>o x y h2
%dasB:W→%a→Res Bool
 |.bl b,h=>%sb
 |_,_=>.bad
%dfB(a:FE):FT:=λσ h=>(a σ h).bind asB
%dir:W→%a→Res Bool
 |.bl b,h=>%sb
 |.lst xs,h=>%s(!xs.isEmpty)
 |.ref i,h=>match h[i]? with
  |some %9D=>%s(!xs.isEmpty)
  |some %3W=>%s(!kvs.isEmpty)
  |_=>.bad
 |_,_=>.bad
%dnU(a:FE):FT:=λσ h=>(a σ h).bind ir
%dUs(a b:FT):FT:=λσ h=>(a σ h).bind λc h1=>if c=true then b σ h1 else ^nfalse
%dfOr(a b:FT):FT:=λσ h=>(a σ h).bind λc h1=>if c=true then ^ntrue else b σ h1
%dVI(a:FT):FT:=λσ h=>(a σ h).bind λc h1=>^n(!c)
%dah(a b:FE):FE:=λσ h=>(a σ h).bind λx h1=>(asB x h1).bind λc h2=>if c=true then b σ h2 else &1mh2
%drL(a b:FE):FE:=λσ h=>(a σ h).bind λx h1=>(asB x h1).bind λc h2=>if c=true then %5dtrue h2 else b σ h2
%drM(c:FT)(a b:FE):FE:=λσ h=>(c σ h).bind λk h1=>if k=true then a σ h1 else b σ h1
%dAd:FA:=λ_ h=>%s[]
%dAa(a:FE)(r:FA):FA:=λσ h=>(a σ h).bind λx h1=>(r σ h1).bind λxs h2=>.ok (x::xs) h2
%dfN(o:%m→%a→%p)(a:FA):FE:=λσ h=>(a σ h).bind o
%dsNx:FS:=λσ h=>%1Vh
%dAg(a b:FS):FS:=λσ h=>(a σ h).bind b
%dAI(a:FE):FS:=λσ h=>(a σ h).st λ_ h1=>%1Vh1
%dBz(a:FE):FS:=λσ h=>(a σ h).st λv h1=>.rt v h1
%dTv:FS:=λ_ h=>.rt .non h
%dAU(i:Nat)(a:FE):FS:=λσ h=>(a σ h).st λv h1=>.nx &5l h1
%dsIf(c:FT)(a b:FS):FS:=λσ h=>(c σ h).st λk h1=>if k=true then a σ h1 else b σ h1
%dDv(c:FT)(b:FS):Nat→FS
 |0=>λ_ _=>.bad
 |n+1=>λσ h=>(c σ h).st λk h1=>if k=true then(b σ h1).bind (Dv c b n) else %1Vh1
%dSD(i:Nat)(o:W→W→%a→%p)(a:FE):FS:=λσ h=>(fV i σ h).st λx h0=>(a σ h0).st λy h1=>(o x y h1).st λz h2=>.nx (%8o%9U) h2
section
variable{g:Wd}{E:XK}{X:Cx}{a b c:Expr}{rest:List Expr}{fa fb:FE}{fc fd:FT}{fl:FA}{pos:Pos}{st:Stmt}{sts:List Stmt}{s1 s2:FS}
%to7{t:TE}{o:W→%a→Res Bool}{σ:St}{H:Hp}{Q:Bool→Hp→Prop}(h:wT g E (λσ h=>(fa σ h).bind o) σ H Q){R:V→Hp→Prop}
 (k:∀F m h H x v,&C→^Wg F m x v→^ug E RB F m(o x h)Q→R v H):wE g E fa σ H R:=by
 o⟨F,m,h,τ,R0,N,P⟩:=h;e⟨F,m,h,τ,R0,N,AD P λx h1 F1 m1 H1 v l R1 rx P1=>k F1 m1 h1 H1 x v R1 rx P1⟩
%td_c{v:W}{u:V}{e:Expr}(h:%ke(tC u))(r:RW g (λ_=>none) (λ_=>0) 0 v u):%Re(fC v):=h.imp λσ H Q ⟨F,m,hh,τ,R,N,P⟩=>%6Iu(r.mono .zero)
%tBb{i:Int}{j:Nat}:%R(%8q^x pos)(&Ri):=d_c jm .int
%tBu{x:Str}{j:Nat}:%R(%8q%0J pos)(%Cx):=d_c qP .str
%tkK{x:Bool}{j:Nat}:%R(%8q(.bool x)pos)(fC (.bl x)):=d_c ua .bl
%tLC{j:Nat}:%R(%8q.none pos)%1G:=d_c qR .non
%dGV(g:Wd)(mg:Str→&f)(x:Str)(v:W):Prop:=∃u w,mg x=some w∧RelV u w∧RW g (λ_=>none) (λ_=>0) 0 v u
%tAr{x:Str}{v:W}(h:GV g X.mg x v)(hg:Gl X x)(hd:(x==("__debug__":Str))=false:=by decide):%R%9C(fC v):=by
 o⟨u,w,e,r,q⟩:=h;e d_c (mX hg e r hd) q
%twV{i:Nat}{σ:St}{H:Hp}{Q:VK}(h:wE g E (fV i) σ H Q):lR i σ H Q:=by
 J;u fV at P;f
 ·rename_i v e;o⟨u,e1,r⟩:=N.2 i v e;e⟨u,e1,%6Iu r⟩
 ·e P.elim
%td_v{x:Str}(i:Nat)(h:%k%9C(lR i)):%R%9C(fV i):=h.imp λσ H Q=>wV
%tgB{op:UnaryOp}{r:V→Hp→VK→Prop}{o:W→%a→%p}(ho:UnR X (unaryOp op) r)(ad:Ad1 g o r)(ha:#Z):%R(.UnaryOp op a pos)(fUn o fa):=(pA ho ha).imp λσ H Q ⟨F,m,h,τ,R,N,P⟩=>
 ⟨F,m,h,τ,R,N,AD P λx h1 F1 m1 H1 v l R1 rx P1=>ad F1 m1 h1 H1 x v Q E R1 rx P1⟩
%tY4{r:R2}{o:W→W→%a→%p}(ad:Ad2 g o r){σ:St}{H:Hp}{Q:VK}(h:wE g E (Am o fa fb) σ H Q):tOp r (wE g E fa) (wE g E fb) σ H Q:=by
 J;e⟨F,m,h,τ,R,N,AD P λx h1 F1 m1 H1 v l R1 rx P1=>⟨F1,m1,h1,τ,R1,#d,AD P1 λy h2 F2 m2 H2 u l2 R2 ry P2=>ad F2 m2 h2 H2 x y v u Q E R2 %6a ry P2⟩⟩
%tJK{op:Operator}{r:R2}{o:W→W→%a→%p}(ho:%9AX op r)(ad:Ad2 g o r)(ha:#Z)(hb:%3A):%R(.BinOp a op b pos)(Am o fa fb):=(t5 ho ha hb).imp λσ H Q=>Y4 ad
%tSb{op:CmpOp}{r:R2}{o:W→W→%a→%p}(ho:%3eX op r)(ad:Ad2 g o r)(ha:#Z)(hb:%3A)(hm:&1b=false):%R(%7ta [op] [b])(Am o fa fb):=(m6 ho ha hb hm).imp λσ H Q=>Y4 ad
%tpw{F:Hp}{m:Nat→Addr}{n:Nat}{k:Bool}{v:V}(h:RW g F m n (.bl k) v):v=.bl k:=by c h;rfl
%twB{f:FE}{σ:St}{H:Hp}{Q:Bool→Hp→Prop}(h:wT g E (fB f) σ H Q):wE g E f σ H λx H1=>∃c,x=.bl c∧Q c H1:=by
 r o7 (t:=λ_ _ _=>True) h λF m h H x v R r P=>?_
 cases x with
 |bl k=>e⟨k,pw r,%6Ik rfl⟩
 |_=>e P.elim
%tAZ{op:CmpOp}{r:R2}{o:W→W→%a→%p}(ho:%3eX op r)(ad:Ad2 g o r)(ha:#Z)(hb:%3A)(hm:&1b=false):DT g E X (%7ta [op] [b]) (^po fa fb):=
 (mE ho ha hb hm).imp λσ H Q h=>Y4 ad (wB h)
%tDd{e:Expr}{f:FE}(h:%Re f)(he:∀whole,isTrue e X.env whole=(do let v←whole;standAt e.pos;%9Pv(truthy v)):=by intro _;rfl):DT g E X e (fB f):=(qD h he).imp λσ H Q=>wB
%tkm(hg:g.K=X.K){e:Expr}{f:FE}(h:%Re f)(he:∀whole,isTrue e X.env whole=(do let v←whole;standAt e.pos;%9Pv(truthy v)):=by intro _;rfl):DT g E X e (nU f):=by
 r(jc h he).imp λσ H Q q=>o7 (t:=λ_ _ _=>True) q λF m h H x v R r P=>?_;rw[←hg]
 cases r with
 |bl=>e⟨_,rfl,%5brfl⟩
 |lst q r=>e⟨_,.inl ⟨_,SqL.of (R.frz _ _ q),by c r<;>rfl⟩,%5brfl⟩
 |ref hi=>
  a9;l7;h P:^ug E RB F m(match h[i]? with|some %9D=>%s(!xs.isEmpty)|some %3W=>%s(!kvs.isEmpty)|_=>.bad)Q:=P;rw[e] at P;o⟨u,e1,e2⟩:=R.obj _ _ e
  cases e2 with
  |lst r2=>e⟨_,.inl ⟨_,SqL.of e1,by c r2<;>rfl⟩,%5brfl⟩
  |dct r2=>e⟨_,^b⟨_,e1,by c r2<;>rfl⟩,%5brfl⟩
  |ins _ _=>e %j
  |hole=>e %j
 |_=>e %j
end
end G
end L2
namespace L2
namespace G
open PySem PySem.Spec PyProof.Rows
variable [NC]
section
variable{g:Wd}{E:XK}{X:Cx}{a b c:Expr}{rest:List Expr}{fa fb:FE}{fc fd:FT}{fl:FA}{pos:Pos}{st:Stmt}{sts sts':List Stmt}{s1 s2:FS}
%tOI(ha:DT g E X a fc):DW g E X (&0l.And [a]) fc:=my ha
%tFe(ha:DT g E X a fc):DW g E X (&0l.Or [a]) fc:=qv ha
%twT2{k:Bool→FT}{σ:St}{H:Hp}{Q:Bool→Hp→Prop}(h:wT g E (λσ h=>(fc σ h).bind λc h1=>k c σ h1) σ H Q):wT g E fc σ H λc H1=>wT g E (k c) σ H1 Q:=by
 J;e⟨F,m,h,τ,R,N,AD P λx h1 F1 m1 H1 v l R1 rx P1=>by c rx;e⟨F1,m1,h1,τ,R1,#d,P1⟩⟩
%tij{k:Bool}{σ:St}{H:Hp}{Q:Bool→Hp→Prop}(h:wT g E (λ_ h=>%sk) σ H Q):Q k H:=by
 J;e %6Ik rfl
%tXI{σ:St}{H:Hp}{Q Q':Bool→Hp→Prop}(h:wT g E fc σ H Q)(k:∀c H,Q c H→Q' c H):wT g E fc σ H Q':=by
 J;i0
 cases e:fc τ h with
 |ok c h1=>rw[e] at P;e λF1 m1 H1 b l R1 r=>k _ _ (P F1 m1 H1 b l R1 r)
 |exc c fs=>rw[e] at P;e P
 |bad=>rw[e] at P;e P
%tS8(ha:DT g E X a fc)(hb:DW g E X (&0M.And) fd):DW g E X (&0s.And) (Us fc fd):=(qz ha hb).imp λσ H Q h=>XI (wT2 (k:=λc σ h1=>if c=true then fd σ h1 else ^nfalse) h) λc H1 q=>by
 cases c with
 |true=>e q
 |false=>e ij q
%tFX(ha:DT g E X a fc)(hb:DW g E X (&0M.Or) fd):DW g E X (&0s.Or) (fOr fc fd):=(tX ha hb).imp λσ H Q h=>XI (wT2 (k:=λc σ h1=>if c=true then ^ntrue else fd σ h1) h) λc H1 q=>by
 cases c with
 |true=>e ij q
 |false=>e q
%tS9(ha:DT g E X a fc):DT g E X (.UnaryOp .Not a pos) (VI fc):=(qE ha).imp λσ H Q h=>XI (wT2 (k:=λc σ h1=>^n(!c)) h) λc H1 q=>ij q
%tph{v:W}{u:V}{σ:St}{H:Hp}{Q:VK}(r:RW g (λ_=>none) (λ_=>0) 0 v u)(h:wE g E (fC v) σ H Q):Q u H:=by
 J;e %6Iu(r.mono .zero)
%twEB{k:Bool→FE}{σ:St}{H:Hp}{Q:VK}(h:wE g E (λσ h=>(fa σ h).bind λx h1=>(asB x h1).bind λc h2=>k c σ h2) σ H Q):wE g E fa σ H λx H1=>∃c,x=.bl c∧wE g E (k c) σ H1 Q:=by
 x0
 cases x with
 |bl c=>e⟨c,pw rx,F1,m1,h1,τ,R1,#d,P1⟩
 |_=>e #N
%tXJ{σ:St}{H:Hp}{Q Q':VK}(h:wE g E fa σ H Q)(k:∀c H,Q c H→Q' c H):wE g E fa σ H Q':=by
 J;i0
 cases e:fa τ h with
 |ok c h1=>rw[e] at P;e λF1 m1 H1 b l R1 r=>k _ _ (P F1 m1 H1 b l R1 r)
 |exc c fs=>rw[e] at P;e P
 |bad=>rw[e] at P;e P
%tdN{op:BoolOp}{f:FE}(h:%Ra f):%R(&0lop [a])f:=qQ h
%tkL(ha:#Z)(hb:%R(&0M.And)fb):%R(&0s.And)(ah fa fb):=(qU ha hb).imp λσ H Q h=>XJ (wEB (k:=λc σ h2=>if c=true then fb σ h2 else &1mh2) h) λx H1 ⟨c,e,q⟩=>⟨c,e,by
 cases c with
 |true=>e q
 |false=>e ph .bl q⟩
%tvE(ha:#Z)(hb:%R(&0M.Or)fb):%R(&0s.Or)(rL fa fb):=(t4 ha hb).imp λσ H Q h=>XJ (wEB (k:=λc σ h2=>if c=true then %5dtrue h2 else fb σ h2) h) λx H1 ⟨c,e,q⟩=>⟨c,e,by
 cases c with
 |true=>e ph .bl q
 |false=>e q⟩
%tuI(hc:DT g E X c fc)(ha:#Z)(hb:%3A):%R(.IfExp c a b pos)(rM fc fa fb):=(jn hc ha hb).imp λσ H Q h=>by
 x0;m
 cases x with
 |true=>e⟨F1,m1,h1,τ,R1,#d,P1⟩
 |false=>e⟨F1,m1,h1,τ,R1,#d,P1⟩
%tAf:DA g E X [] Ad:=qW.imp λσ H Q ⟨F,m,h,τ,R,N,P⟩=>%6I[] .nil
%tAb(ha:#Z)(hr:DA g E X rest fl)(hs:%4u(a::rest)=(false,%5B)::%4urest:=by rfl):DA g E X (a::rest) (Aa fa fl):=(m9 ha hr hs).imp λσ H Q ⟨F,m,h,τ,R,N,P⟩=>
 ⟨F,m,h,τ,R,N,AD P λx h1 F1 m1 H1 v l R1 rx P1=>⟨F1,m1,h1,τ,R1,#d,AD P1 λxs h2 F2 m2 H2 vs l2 R2 rxs P2=>P2 F2 m2 H2 (v::vs) .refl R2 (.cons %6a rxs)⟩⟩
%twN{o:%m→%a→%p}{r:%c→Hp→VK→Prop}(ad:AdN g o r){σ:St}{H:Hp}{Q:VK}(h:wE g E (fN o fl) σ H Q):wA g E fl σ H λvs H1=>r vs H1 Q:=by
 J;e⟨F,m,h,τ,R,N,AD P λxs h1 F1 m1 H1 vs l R1 rx P1=>ad F1 m1 h1 H1 xs vs Q E R1 rx P1⟩
%tAX:DSs g E X [] sNx:=mF.imp λD σ H ⟨F,m,h,τ,R,N,P⟩=>%6Iσ N
%tPX{F:Hp}{m:Nat→Addr}{n:Nat}{r:SR}{k:FS}{D:Ends}{D1:Ends}(h:FW g E %4Y F m n %8j D)
 (hn:∀σ h1 F1 m1 H1 τ,#KF1 m1 h1 H1→RN g F1 m1 h1.length σ τ→FW g E %4Y F1 m1 h1.length (k σ h1) D→D1.nx τ H1) (hr:∀v H,D.rt v H→D1.rt v H):FW g E %4Y F m n r D1:=by
 cases r with
 |nx σ h1=>e λF1 m1 H1 τ l R1 N1=>hn σ h1 F1 m1 H1 τ R1 N1 (Gq l h)
 |rt v h1=>e λF1 m1 H1 b l R1 r=>hr _ _ (h F1 m1 H1 b l R1 r)
 |exc c fs=>e h
 |bad=>e h
%tAe(h1:DS g E X st s1)(h2:DSs g E X sts s2):DSs g E X (st::sts) (Ag s1 s2):=(Zu h1 h2).imp λD σ H ⟨F,m,h,τ,R,N,P⟩=>
 ⟨F,m,h,τ,R,N,PX P (λσ1 h1 F1 m1 H1 τ1 R1 N1 P1=>⟨F1,m1,h1,σ1,R1,N1,P1⟩) λ_ _ z=>z⟩
%tAj(h1:DS g E X st s1):DSs g E X [st] s1:=Yd h1
%tAO(he:#Z)(hs:%7Ua none X.env=%7c:=by rfl):DS g E X (.Expr a pos) (AI fa):=(mH he hs).imp λD σ H ⟨F,m,h,τ,R,N,P⟩=>
 ⟨F,m,h,τ,R,N,CL P λx h1 F1 m1 H1 v l R1 rx P1=>P1 F1 m1 H1 σ .refl R1 #d⟩
%tA1(he:#Z):DS g E X (.Return &1i pos) (Bz fa):=(qH he).imp λD σ H ⟨F,m,h,τ,R,N,P⟩=>
 ⟨F,m,h,τ,R,N,CL P λx h1 F1 m1 H1 v l R1 rx P1=>P1 F1 m1 H1 v .refl R1 rx⟩
%tdG:DS g E X (.Return none pos) Tv:=mG.imp λD σ H ⟨F,m,h,τ,R,N,P⟩=>%6I.non .non
%tBh(hc:DT g E X c fc)(ha:DSs g E X sts s1)(hb:DSs g E X sts' s2):DS g E X (.If c sts sts' pos) (sIf fc s1 s2):=(tZ hc ha hb).imp λD σ H ⟨F,m,h,τ,R,N,P⟩=>
 ⟨F,m,h,τ,R,N,CL P λx h1 F1 m1 H1 v l R1 rx P1=>by
   m
   cases x with
   |true=>e⟨F1,m1,h1,τ,R1,#d,P1⟩
   |false=>e⟨F1,m1,h1,τ,R1,#d,P1⟩⟩
%tR6(n:Nat)(hp:PassesOwn %6i X.A X.env X.xe)(hc:DT g E X c fc)(hb:DSs g E X sts s1):DS g E X (.While c sts [] pos) (Dv fc s1 n):=(je hp hc hb).imp λD σ H h=>by
 r⟨λk σ H=>wS g E (Dv fc s1 k) D σ H,⟨n,h⟩,λk σ H ⟨F,m,h,τ,R,N,P⟩=>?_⟩
 cases k with
 |zero=>e %j
 |succ k=>
  r⟨F,m,h,τ,R,N,CL P λx h1 F1 m1 H1 v l R1 rx P1=>?_⟩;m
  cases x with
  |true=>e⟨wS g E (Dv fc s1 k) D,λσ' H' q=>⟨k,%0s,q⟩,F1,m1,h1,τ,R1,#d,PX P1 (λσ1 h2 F2 m2 H2 τ2 R2 N2 P2=>⟨F2,m2,h2,σ1,R2,N2,P2⟩) λ_ _ z=>z⟩
  |false=>e P1 F1 m1 H1 σ .refl R1 #d
end
%dbz(f:Str)(v:W):%3S→List (Str×W)
 |[]=>[(f,v)]
 |(g,x)::r=>if g=f then(g,v)::r else(g,x)::bz f v r
section
variable{g:Wd}{F:Hp}{m:Nat→Addr}{n:Nat}
%tRK.lookup{f:Str}:∀{fs:%3S} {vs:%1C} {x:W},RK g F m n fs vs→%3N=%v→∃v,vs.lookup f=%W∧RW g F m n x v
 |_,_,_,.nil,e=>by c e
 |_,_,x,.cons (k:=k) h r,e=>by
  by_cases q:(f==k)=true
  ·s[List.lookup,q] at e ⊢;d;e⟨_,rfl,h⟩
  ·m8;s[List.lookup,q] at e ⊢;e RK.lookup r e
%tRK.pI{f:Str}:∀{fs:%3S} {vs:%1C},RK g F m n fs vs→%3N=none→vs.lookup f=none
 |_,_,.nil,_=>rfl
 |_,_,.cons (k:=k) h r,e=>by
  by_cases q:(f==k)=true
  ·s[List.lookup,q] at e;d
  ·m8;s[List.lookup,q] at e ⊢;e RK.pI r e
%tRK.put{f:Str}{x:W}{v:V}(h:RW g F m n x v):∀{fs:%3S} {vs:%1C},RK g F m n fs vs→RK g F m n (bz f x fs) (Jp f v vs)
 |_,_,.nil=>%4Ph
 |_,_,.cons (k:=k) q r=>by
  u bz Jp;by_cases e:k=f
  ·rw[if_pos e,if_pos e];e %7B
  ·rw[if_neg e,if_neg e];e .cons q (RK.put h r)
end
%dBN(f:Str):W→%a→Res W
 |.ref i,h=>match h[i]? with
  |some (.ins _ fs)=>match fs.lookup f with
   |some x=>&0a
   |none=>.bad
  |_=>.bad
 |_,_=>.bad
%dFj(f:Str)(v:W):W→%a→Res Unit
 |.ref i,h=>match h[i]? with
  |some (.ins c fs)=>if fs.length<1000 then %9Ii(.ins c (bz f v fs)) else .bad
  |_=>.bad
 |_,_=>.bad
%dAB(f:Str)(a:FE):FE:=λσ h=>(a σ h).bind (BN f)
%dBI(f:Str)(a v:FE):FS:=λσ h=>(v σ h).st λy h1=>(a σ h1).st λx h2=>(Fj f y x h2).st λ_ h3=>%1Vh3
%dSe:W→%a→Option Str
 |.ref i,h=>match h[i]? with
  |some (.ins c _)=>&q
  |_=>none
 |_,_=>none
%dJo(f:Str)(o:W→W→%a→%p)(a v:FE):FS:=λσ h=>(a σ h).st λx h1=>(BN f x h1).st λy h2=>(v σ h2).st λz h3=>(o y z h3).st λw h4=>if Se x h1=Se x h4 then(Fj f w x h4).st λ_ h5=>%1Vh5 else .bad
%dNA(g:Wd)(f:Str):Prop:=∀c C,%9E=#h→Cls g.K C∧JH g.K C f
section
variable{g:Wd}{E:XK}{F:Hp}{m:Nat→Addr}{h:List O}{H:Hp}
%tdB{f:Str}{x:W}{v:V}{α β:Type}{R:Hp→(Nat→Addr)→Nat→α→β→Prop}{k:W→%a→%4h}{Q:β→Hp→Prop}(na:NA g f)(Rp:&C)(r:^Wg F m x v)(P:^ug E R F m((BN f x h).bind k)Q):
 ∃a C dx fs u y,v=%N∧&Q=%3mC dx fs∧Cls g.K C∧JH g.K C f∧%3N=%x∧^Wg F m y u∧^ug E R F m(k y h)Q:=by
 cases r with
 |ref hi=>
  a9;l7;u BN at P;s[e] at P;o⟨u,e1,e2⟩:=Rp.obj _ _ e
  cases e2 with
  |ins hc rk=>
   simp only at P;f
   ·rename_i y el;o⟨u,q1,q2⟩:=rk.lookup el;o⟨c1,c2⟩:=na _ _ hc;e⟨_,_,_,_,u,y,rfl,e1,c1,c2,q1,q2,P⟩
   ·e %j
  |_=>e %j
 |_=>e %j
%tcO{f:Str}{x y:W}{v u:V}{k:%a→SR}{D:Ends}{RS:Hp→(Nat→Addr)→Nat→Sa→St→Prop}(na:NA g f)(Rp:&C)(r:^Wg F m x v)(ry:^Wg F m y u)
 (P:FW g E RS F m h.length ((Fj f y x h).st λ_ h1=>k h1) D):
 ∃a C dx fs h1,v=%N∧&Q=%3mC dx fs∧Cls g.K C∧JH g.K C f∧fs.length<1000∧h1.length=h.length∧#KF m h1(%Ya(.ins C dx (Jp f u fs)))∧FW g E RS F m h.length (k h1) D:=by
 cases r with
 |ref hi=>
  a9;l7;u Fj at P;s[e] at P;o⟨w,e1,e2⟩:=Rp.obj _ _ e
  cases e2 with
  |ins hc rk=>
   simp only at P;f
   ·rename_i el;o⟨c1,c2⟩:=na _ _ hc;e⟨_,_,_,_,_,rfl,e1,c1,c2,by rw[←rk.length];e el,by simp,Rp.bg hi (by rw[e];simp) (.ins hc (rk.put ry)),P⟩
   ·e %j
  |_=>e %j
 |_=>e %j
end
section
variable{g:Wd}{E:XK}{X:Cx}{a b c:Expr}{rest:List Expr}{fa fb:FE}{fc fd:FT}{fl:FA}{pos pos' tpos:Pos}{st:Stmt}{sts sts':List Stmt}{s1 s2:FS}{f:Str}
%tAd1.id{o:W→%a→%p}{r:V→Hp→VK→Prop}(h:∀(F:Hp) (m:Nat→Addr) (h:%a) (H:Hp) (x:W) (v:V) (Q:VK) (E:XK),&C→^Wg F m x v→^ug E%1t F m(o x h)Q→r v H Q):Ad1 g o r:=h
%tdR{α:Type}(r:%4h):r.bind (λx h=>&0a)=r:=by c r<;>rfl
%tAM(hK:g.K=X.K)(na:NA g f)(ha:#Z)(hb:%4Ca f%5B=%5B:=by rfl):%R(%3Ta pos)(AB f fa):=(qS ha hb).imp λσ H Q ⟨F,m,h,τ,R,N,P⟩=>
 ⟨F,m,h,τ,R,N,AD P λx h1 F1 m1 H1 v l R1 rx P1=>by
   rw[←dR (BN f x h1)] at P1;o⟨a,C,dx,fs,u,y,e1,e2,e3,e4,e5,e6,e7⟩:=dB na R1 rx P1;rw[←hK]
   e⟨a,C,dx,fs,u,e1,e2,e3,e4,e5,e7 F1 m1 H1 u .refl R1 e6⟩⟩
%tB8(hK:g.K=X.K)(na:NA g f)(ha:#Z)(hb:%3A)(hs:%7Ub(some (%3Ta pos'))X.env=%7c:=by rfl):DS g E X (&1g[%3Ta pos']b) (BI f fa fb):=(qI ha hb hs).imp λD σ H ⟨F,m,h,τ,R,N,P⟩=>
 ⟨F,m,h,τ,R,N,CL P λy h1 F1 m1 H1 u l R1 ry P1=>⟨F1,m1,h1,τ,R1,#d,CL P1 λx h2 F2 m2 H2 v l2 R2 rx P2=>by
   o⟨a,C,dx,fs,h3,e1,e2,e3,e4,e5,e6,e7,e8⟩:=cO na R2 rx (ry.mono l2) P2;rw[←hK]
   e⟨a,C,dx,fs,e1,e2,e3,e4,e5,e8 F2 m2 _ σ (&6He6.symm) e7 (by rw[e6];e#d.mono l2)⟩⟩⟩
%tkQ{F:Hp}{m:Nat→Addr}{h:%a}{H:Hp}{x:W}{b C dx:Addr}{fs:%1C}(R:&C)(r:^Wg F m x%9X)(e:%O=%3mC dx fs)(hx:Se x h≠none):∃c,Se x h=&q∧%9E=#h:=by
 cases r with
 |ref hi=>
  a9;l8;o⟨w,e1,e2⟩:=R.obj _ _ q;rw[e] at e1;c e1
  cases e2 with
  |ins hc rk=>e⟨_,by s[Se,q],hc⟩
  |hole=>e absurd (by s[Se,q]) hx
 |_=>e ^Uhx
%tj5{f:Str}{x:W}{h:%a}:BN f x h=.bad∨Se x h≠none:=by
 cases x with
 |ref i=>
  cases e:h[i]? with
  |none=>e .inl (by s[BN,e])
  |some o=>
   cases o with
   |ins c fs=>e .inr (by simp[Se,e])
   |_=>e .inl (by s[BN,e])
 |_=>e %U
%tTa(hK:g.K=X.K)(na:NA g f){op:Operator}{rd:V→V→Hp→VK→Prop}{o:W→W→%a→%p}(hop:lC X op rd)(ad:Ad2 g o rd)(ha:#Z)(hb:%3A):DS g E X (.AugAssign (%3Ta tpos) op b pos) (Jo f o fa fb):=(fw ha hb hop).imp λD σ H ⟨F,m,h,τ,R,N,P⟩=>
 ⟨F,m,h,τ,R,N,CL P λx h1 F1 m1 H1 v l R1 rx P1=>by
   h hx:Se x h1≠none:=by
    rcases j5 (f:=f) (x:=x) (h:=h1) with z|z
    ·rw[z] at P1;e #N
    ·e z
   h P1':post g E %1t F1 m1 h1.length ((BN f x h1).bind λy h2=>.ok y h2) λu H'=>∀b C dx0 fs0,v=%9X→H1 b=%3mC dx0 fs0→wE g E fb σ H' λy' H2=>rd u y' H2 λz H3=>∃dx' fs',H3 b=%3mC dx' fs'∧fs'.length<1000∧%5J(upd H3 b (.ins C dx' (Jp f z fs'))):=by
    rw[dR]
    e CL P1 λy h2 F2 m2 H2 u l2 R2 ry P2 b C dx0 fs0 eb hb0=>⟨F2,m2,h2,τ,R2,#d.mono l2,CL P2 λz h3 F3 m3 H3 u3 l3 R3 rz P3=>ad F3 m3 h3 H3 y z u u3 _ E R3 (ry.mono l3) rz (CL P3 λw h4 F4 m4 H4 u4 l4 R4 rw4 P4=>by
     subst eb;o⟨c1,k1,k2⟩:=kQ R1 rx hb0 hx;split at P4
     ·rename_i ec;h rx4:=(%6a.mono l3).mono l4;o⟨a,C',dx,fs,h5,e1,e2,e3,e4,e5,e6,e7,e8⟩:=cO na R4 rx4 rw4 P4;c e1;o⟨c2,j1,j2⟩:=kQ R4 rx4 e2 (by rw[←ec];e hx);rw[k1,j1] at ec;c ec;rw[k2] at j2;c j2;e⟨dx,fs,e2,e5,e8 F4 m4 _ σ (&6He6.symm) e7 (by rw[e6];e((#d.mono l2).mono l3).mono l4)⟩
     ·e False.elim P4)⟩
   o⟨a,C,dx,fs,u,y,e1,e2,e3,e4,e5,e6,e7⟩:=dB na R1 rx P1';rw[←hK]
   e⟨a,C,dx,fs,u,e1,e2,e3,e4,e5,e7 F1 m1 H1 u .refl R1 e6 a C dx fs e1 e2⟩⟩
end
%dCXA(P:Program)(w:World):CXT:=λouter H s E ev s'=>∃C,CXF P w C outer H s E ev s'
%dXOk(X:Cx)(E:XK):Prop:=∀C ev s',XE X C E ev s'→X.xe ev s'
%tXOk.passes{X:Cx}{E:XK}(h:XOk X E):Passes (CXA X.prog X.w) X E:=by
 rintro pins σ H s ev s' I ⟨C,q⟩;e ic (X:=X) (Y:=X) (λ_ _ _ _ z=>z) %4Z (h C) pins σ H s ev s' I q
%taO{P:Program}{w:World}{K:PySem.W.Frag}{mg:Str→&f}{base:Heap}{N:%u}{qual:Str}{scope:Scope}{f:Addr}{cd:Value}{A:Around}{outer:^y}{s:Shared}{H:Hp}{E:XK}(hA:(%7mqual scope f cd).frames=some (envOfC qual scope s.heap.objs.size f cd::outer)):
 XOk (KH (CXA P w) P w K mg base N qual scope f cd A outer s H E) E:=λC ev s' x=>
 thn (d8 (X:=KH (CXA P w) P w K mg base N qual scope f cd A outer s H E) (%5Vrfl) hA rfl x) λ_ _ q=>⟨C,q⟩
%dBY(n:Nat)(fb:FS):FF:=λxs h=>match fb (xs.map some++%5S(n-xs.length)) h with
 |.rt v h'=>^Ov
 |.nx _ h'=>#th'
 |.exc c fs=>%5a
 |.bad=>.bad
%tU0{g:Wd}{F:Hp}{m:Nat→Addr}{n:Nat}:∀{xs:%m} {vs:%c} (k:Nat),^eg F m n→RN g F m n (xs.map some++%5Sk) (vs.map some++%5Sk):=λ{xs vs} k r=>by
 r⟨by simp[r.length],λi x e=>?_⟩;by_cases hi:i<xs.length
 ·rw[List.getElem?_append_left (by simpa using hi),List.getElem?_map] at e
  cases q:xs[i]? with
  |none=>rw[q] at e;c e
  |some y=>
   O;d;o⟨v,h1,h2⟩:=r.get q;e⟨v,by rw[List.getElem?_append_left (by simpa [←r.length] using hi),List.getElem?_map,h1];rfl,h2⟩
 ·rw[List.getElem?_append_right (by simpa using hi),List.getElem?_replicate] at e;split at e<;>c e
%tCo{g:Wd}{P:Program}{w:World}{mg:Str→&f}{base:Heap}{k:Nat}{x qual:Str}{st:Stmt}{f:Addr}{fd:FuncData}{N ps:%u}{fb:FS}(F:Fun g.K x qual st f fd)(S:%yN ps st)
 (hb:∀(cdv:Value) (A:Around) (outer:^y) (s:Shared) (H:Hp) (E:XK),D3 k (%7mqual#e f cdv)→XOk (KH (CXA P w) P w g.K mg base N qual #e f cdv A outer s H E) E→
   DSs g E (KH (CXA P w) P w g.K mg base N qual #e f cdv A outer s H E) %4V fb):BC P w g.K mg base (CXA P w) (k+1) f fd ps (#Lps.length(BY N.length fb)):=by
 d8;r pK lk hcd S (λvs H Q E ⟨F,m,h,xs,R,r,e,_⟩=>by rw[←r.length,e]) λA outer s H vs Q E hr hsp=>?_;o⟨F,m,h,xs,R,r,e,p⟩:=hsp;r⟨wS g E fb,?_,?_⟩
 rotate_left
 ·r⟨F,m,h,xs.map some++&5Q,R,?_,?_⟩
  ·u start;f5;e U0 _ r
  ·u BY at p;split at p
   ·rename_i v h' eb;rw[eb];e p
   ·rename_i σ h' eb;x9
   ·rename_i c fs eb;rw[eb];e p
   ·e False.elim p
 ·intro pins s1 σ1 H1 D I q;e hb cdv A outer s H E hr (aO I.ok.frames) pins s1 σ1 H1 D I q
%dAx(n:Nat)(ff:FF)(r:FA):FE:=λσ h=>(r σ h).bind λxs h1=>if xs.length=n then ff xs h1 else .bad
%dAo(c m:Str)(n:Nat)(ff:FF)(a:FE)(r:FA):FE:=λσ h=>(a σ h).bind λx h1=>match x with
 |.ref i=>match h1[i]? with
  |some (.ins c' fs)=>if c'=c∧&3p=none then(r σ h1).bind λxs h2=>if xs.length+1=n then ff (.ref i::xs) h2 else .bad else .bad
  |_=>.bad
 |_=>.bad
%dCu(c:Str)(n:Nat)(ff:FF)(r:FA):FE:=λσ h=>(r σ h).bind λxs h1=>if xs.length+1=n then(ff (.ref h1.length::xs) (h1++[.ins c []])).bind λv h2=>match v with
 |.non=>%Dh1.length h2
 |_=>.bad
 else .bad
%tRep.vy{g:Wd}{F:Hp}{m:Nat→Addr}{h:%a}{H:Hp}{p:Addr}{o:HO}(R:&C)(hp:%0q=none):#KF m h(%Yp o):=
 ⟨λa u e=>by rw[Ay (AN (R.frz a u e) hp)];e R.frz a u e,R.out,R.inj,λi o' e=>by
   o⟨u,e1,e2⟩:=R.obj i o' e
   e⟨u,by rw[Ay (AN e1 hp)];e e1,e2⟩⟩
section
variable{g:Wd}{E:XK}{X:Cx}{k n:Nat}{f C:Addr}{fd:FuncData}{ps:List Str}{ff:FF}{x m c:Str}{p pos apos:Pos}{e o:Expr}{es:List Expr}{fa:FE}{fl:FA}
%tsO{σ:St}{H:Hp}{Q:VK}(h:wE g E (Ax n ff fl) σ H Q):pk (#Ln ff) [] E (wA g E fl) σ H Q:=by
 J;r⟨F,m,h,τ,R,N,AD P λxs h1 F1 m1 H1 vs l R1 rx P1=>?_⟩;S
 ·a7;e⟨F1,m1,h1,xs,R1,by rw[List.append_nil];e rx,e,P1⟩
 ·e #N
%tBc(F:BC X.prog X.w X.K X.mg X.base (CXA X.prog X.w) k f fd ps (#Ln ff))(hr:D3 k X.A)(hx:XOk X E)(hg:Gl X x)(hm:%0X=%ef)(hk:%1iX.K f=true)(hb:%0Yfd ps [])
 (ha:DA g E X (e::es) fl) (hdb:(x==("__debug__":Str))=false:=by decide) (he:%3d=(false,#u)::%1m:=by rfl) (hpl:%5x.any (·.1)=false:=by rfl):
 %R(&1hx p)(Ax n ff fl):=(m7 F hr hg hm hk hb .nil hx.passes ha hdb he hpl).imp λσ H Q=>sO
%to9{σ:St}{H:Hp}{Q:VK}(hc:%9E=#h)(h:wE g E (Ao c m n ff fa fl) σ H Q):wE g E fa σ H λx H1=>∃a dx fs,x=%N∧H1 a=%3mC dx fs∧&3p=none∧wA g E fl σ H1 λvs H2=>wF g n ff (x::(vs++[])) H2 Q E:=by
 o⟨F,m',h,τ,R,N,P⟩:=h;r⟨F,m',h,τ,R,N,AD P λx h1 F1 m1 H1 v l R1 rx P1=>?_⟩
 cases rx with
 |ref hi=>
  a9;h q:h1[i]? =some h1[i]:=%3D;generalize h1[i]=ob at q;o⟨w,e1,e2⟩:=R1.obj _ _ q;s[q] at P1
  cases e2 with
  |ins hc' rk=>
   simp only at P1;S
   ·rename_i ec;o⟨rfl,el⟩:=ec;rw[hc] at hc';c hc';r⟨_,_,_,rfl,e1,rk.pI el,F1,m1,h1,τ,R1,#d,AD P1 λxs h2 F2 m2 H2 vs l2 R2 rxs P2=>?_⟩;q
    ·rename_i en;r⟨F2,m2,h2,.ref i::xs,R2,.cons ?_ (by rw[List.append_nil];e rxs),en,P2⟩;h:=(RW.ref (g:=g) (F:=F1) (m:=m1) hi).mono l2;G
    ·e ^F
   ·e #N
  |_=>e #N
 |_=>e #N
%tBn{pl:&2f}(hc:%9E=#h)(cl:Cls X.K C)(hm:Meth X.K C m f)(F:BC X.prog X.w X.K X.mg X.base (CXA X.prog X.w) k f fd ps (#Ln ff))(hr:D3 k X.A)(hx:XOk X E)(hb:%0Yfd ps [])(ho:%4So)(ha:DA g E X (e::es) fl)
 (hst:%3d=(false,#u)::%1m:=by rfl) (hpl:%5x.any (·.1)=false:=by rfl)
 (ht:#B(^Yo m(e::es)pos)=(do
   let ov←%0M
   standAt apos.atName
   let(f,first)←%9Pov(getMethod ov m pl)
   callWith pos f first (%9o(e::es)) (%7Hpos [])):=by rfl):
 %R(^Yo m(e::es)pos)(Ao c m n ff fa fl):=(mT ho cl hm F hr hb .nil hx.passes ha hst hpl ht).imp λσ H Q h=>o9 hc h
%tAK{pl:&2f}(hc:%9E=#h)(cl:Cls X.K C)(hm:Meth X.K C m f)(F:BC X.prog X.w X.K X.mg X.base (CXA X.prog X.w) k f fd ps (#Ln ff))(hr:D3 k X.A)(hx:XOk X E)(hb:%0Yfd ps [])(ho:%4So)
 (ht:#B(^Yo m []pos)=(do
   let ov←%0M
   standAt apos.atName
   let(f,first)←%9Pov(getMethod ov m pl)
   callWith pos f first (%9o[]) (%7Hpos [])):=by rfl):
 %R(^Yo m []pos)(Ao c m n ff fa Ad):=(jj ho cl hm F hr hb .nil hx.passes ht).imp λσ H Q h=>XJ (o9 hc h) λx H1 ⟨a,dx,fs,e1,e2,e3,q⟩=>⟨a,dx,fs,e1,e2,e3,by
 e6
 e P F m H1 [] .refl R .nil⟩
%tpd{σ:St}{H:Hp}{Q:VK}(hc:%9E=#h)(h:wE g E (Cu c n ff fl) σ H Q):iy C (#Ln ff) [] E (wA g E fl) σ H Q:=by
 J;r⟨F,m,h,τ,R,N,AD P λxs h1 F1 m1 H1 vs l R1 rx P1 x dx ex edx ne=>?_⟩;S
 ·rename_i en;h R2:#KF1(ext m1 h1.length x)(h1++[.ins c []])(upd (upd H1 dx (.own x)) x (.ins C dx [])):=(R1.vy edx).fQ (by rw[Ay (Ne.symm ne)];e ex) (.ins hc .nil);h hl:(h1++[O.ins c []]).length=h1.length+1:=by simp
  r⟨F1,ext m1 h1.length x,_,.ref h1.length::xs,R2,.cons ?_ (by rw[List.append_nil,hl];e rx.mono .new),en,?_⟩
  ·h:=RW.ref (g:=g) (F:=F1) (m:=ext m1 h1.length x) (n:=(h1++[O.ins c []]).length) (i:=h1.length) (by rw[hl];e %0s);rw[Fv] at this;G
  ·h P1:=WR (Le.new (F:=F1) (m:=m1) (n:=h1.length) (p:=x)) P1;rw[←hl] at P1;r AD P1 λv h2 F2 m2 H2 u l2 R3 rv P2=>?_
   cases v with
   |non=>
    c rv;r⟨rfl,P2 F2 m2 H2 %3s .refl R3 ?_⟩;h:=(RW.ref (g:=g) (F:=F1) (m:=ext m1 h1.length x) (n:=(h1++[O.ins c []]).length) (i:=h1.length) (by rw[hl];e %0s)).mono l2;rw[Fv] at this
    e this
   |_=>e ^F
 ·e #N
%tTb(hc:%9E=#h)(M:Mk X.K C f)(F:BC X.prog X.w X.K X.mg X.base (CXA X.prog X.w) k f fd ps (#Ln ff))(hr:%9K)(hx:XOk X E)(hg:Gl X x)(hm:%0X=%9Z)(hb:%0Yfd ps [])
 (ha:DA g E X (e::es) fl) (hdb:(x==("__debug__":Str))=false:=by decide) (he:%3d=(false,#u)::%1m:=by rfl) (hpl:%5x.any (·.1)=false:=by rfl):
 %R(&1hx p)(Cu c n ff fl):=(mV M F hr hg hm hb .nil hx.passes ha hdb he hpl).imp λσ H Q=>pd hc
%tdO(hc:%9E=#h)(M:Mk X.K C f)(F:BC X.prog X.w X.K X.mg X.base (CXA X.prog X.w) k f fd ps (#Ln ff))(hr:%9K)(hx:XOk X E)(hg:Gl X x)(hm:%0X=%9Z)(hb:%0Yfd ps [])
 (hdb:(x==("__debug__":Str))=false:=by decide):%R(%6Hx p [])(Cu c n ff Ad):=(jk M F hr hg hm hb .nil hx.passes hdb).imp λσ H Q h=>by
 h q:=pd hc h;e6;e λx dx a b c=>P F m H [] .refl R .nil x dx a b c
end
abbrev DS0(g:Wd)(E:XK)(X:Cx)(st:Stmt)(f:FS):Prop:=PS0 X st (wS g E f)
abbrev oX(g:Wd)(E:XK)(X:Cx)(st:%0V)(f:FS):Prop:=Ou X st (wS g E f)
%dAQ(c:Str)(mk:%m→Option #x)(r:FA):FS:=λσ h=>(r σ h).st λxs _=>match mk xs with
 |some fs=>%5a
 |none=>.bad
structure Mks(n:Nat)(mkW:%m→Option #x)(mk:%c→%1C):Prop where
 len:∀xs fs,mkW xs=some fs→xs.length=n
 ok:∀(g:Wd) F m k xs vs fs,^eg F m k→mkW xs=some fs→mk vs=fs.map λp=>(p.1,%7e)
section
variable{g:Wd}{E:XK}{X:Cx}{C fI:Addr}{fd:FuncData}{k n:Nat}{ps:List Str}{mk:List V→List (Str×V)}{mkW:List W→Option (List (Str×Int))}{x c:Str}{p cpos pos:Pos}{e1:Expr}{es:List Expr}{fl:FA}{st:Stmt}{sts:List Stmt}{s1 s2:FS}
%tik{σ:St}{H:Hp}{D:Ends}(hc:^K=#h)(mks:Mks n mkW mk)(h:wS g E (AQ c mkW fl) D σ H):XU C mk n E (wA g E fl) D σ H:=by
 J;r⟨F,m,h,τ,R,N,CL P λxs h1 F1 m1 H1 vs l R1 rx P1=>?_⟩
 cases e:mkW xs with
 |none=>s[e] at P1;e #N
 |some fs=>
  s[e] at P1;o⟨C',hC,q⟩:=P1;rw[hc] at hC;c hC;r⟨by rw[←rx.length];e mks.len _ _ e,λex d H2 a1 a2 ne=>q d H2 ?_⟩;rw[a2,mks.ok g _ _ _ _ _ _ rx e]
%tBa(hX:XOk X E)(hc:^K=#h)(mks:Mks n mkW mk)(cl:C7 X.K C fI=true)(fn:%5kX.K fI=true)(kp:%1iX.K C=true)(F:FnN X.prog X.w X.K X.mg X.base k fI fd ps (spX C n mk))(hr:%9K)
 (hb:%0Yfd ps []) (hps:ps.length=n+1) (hz:n≤1000) (hg:Gl X x) (hm:%0X=%9Z) (ha:DA g E X (e1::es) fl)
 (hdb:(x==("__debug__":Str))=false:=by decide) (he:%4u(e1::es)=(false,#Be1)::%1m:=by rfl) (hpl:(%6Des).any (·.1)=false:=by rfl):
 DS g E X (.Raise (some (&0jx p(e1::es)cpos)) none pos) (AQ c mkW fl):=(fv (hX C) cl fn kp F hr hb hps hz hg hm ha hdb he hpl).imp λD σ H=>ik hc mks
%tXi(hX:XOk X E)(hc:^K=#h)(mks:Mks 0 mkW mk)(cl:C7 X.K C fI=true)(fn:%5kX.K fI=true)(kp:%1iX.K C=true)(F:FnN X.prog X.w X.K X.mg X.base k fI fd ps (spX C 0 mk))(hr:%9K)
 (hb:%0Yfd ps []) (hps:ps.length=1) (hg:Gl X x) (hm:%0X=%9Z) (hdb:(x==("__debug__":Str))=false:=by decide):
 DS g E X (.Raise (some (&0jx p []cpos)) none pos) (AQ c mkW Ad):=(bA (hX C) cl fn kp F hr hb hps hg hm hdb).imp λD σ H h=>by
 h q:=ik hc mks h;e6;e %6I[] .nil
%tDS.to0{f:FS}(h:DS g E X st f):DS0 g E X st f:=PS.to0 h
%tko(h1:DS0 g E X st s1)(h2:oX g E X sts s2):oX g E X (st::sts) (Ag s1 s2):=(WQ h1 h2).imp λD σ H ⟨F,m,h,τ,R,N,P⟩=>
 ⟨F,m,h,τ,R,N,PX P (λσ1 h1 F1 m1 H1 τ1 R1 N1 P1=>⟨F1,m1,h1,σ1,R1,N1,P1⟩) λ_ _ z=>z⟩
%tn9(h1:DS0 g E X st s1):oX g E X [st] s1:=Ou.one h1
end
%dbF:SR→SR
 |.rt v h=>.rt v h
 |_=>.bad
%dOU(N:Nat)(c:Str)(fs:#x):List (List Str×(Nat×FS ⊕ Str×#x))→SR
 |[]=>.bad
 |(cs,.inl (i,f))::r=>if c∈cs then bF (f ((%5SN).set i (some (.xc c fs))) []) else OU N c fs r
 |(cs,.inr (c',fs'))::r=>if c∈cs then .exc c' fs' else OU N c fs r
%dOQ(N:Nat)(fb:FS)(cl:List (List Str×(Nat×FS ⊕ Str×#x))):FS:=λσ h=>match fb σ h with
 |.exc c fs=>OU N c fs cl
 |.nx σ h=>%1Vh
 |.rt v h=>.rt v h
 |.bad=>.bad
inductive Hs(g:Wd)(E:XK)(X:Cx):&1D→List (List Str×(Nat×FS ⊕ Str×#x))→Prop
 |nil:Hs g E X [] []
 |rer {t:Expr} {b0:Stmt} {suite:%0V} {pos:Pos} {cs:%u} {c':Str} {fs':#x} {r:&1D} {r':List (List Str×(Nat×FS ⊕ Str×#x))} (ht:∀c C e xe,^K=#h→XC (XH X e xe) C t (decide (c∈cs)))
   (hs:∀c C e d σ H s,c∈cs→^K=#h→Inv X [] σ H s→H e=some (XO C d e)→EX g E c' fs'→%3b(&5ue)(execs (b0::suite) X.env)(λ_ _=>False)(xeH X e)s)
   (hr:Hs g E X r r'):Hs g E X (.ExceptHandler (some t) none (b0::suite) pos::r) ((cs,.inr (c',fs'))::r')
 |as {t:Expr} {b0:Stmt} {suite:%0V} {pos:Pos} {cs:%u} {f:FS} {r:&1D} {r':List (List Str×(Nat×FS ⊕ Str×#x))} {n:Str} {i:Nat} (ht:∀c C e xe,^K=#h→XC (XH X e xe) C t (decide (c∈cs)))
   (hi:X.N[i]? =%9Y) (hl:X.env.scope.names.lookup n=%0U) (hs:∀e,DSs g E0 (XH X e λ_ _=>False) (b0::suite) f) (hr:Hs g E X r r'):Hs g E X (.ExceptHandler (some t) %9Y (b0::suite) pos::r) ((cs,.inl (i,f))::r')
section
variable{g:Wd}{E:XK}{X:Cx}{C e d:Addr}{σ:St}{H:Hp}{s:Shared}{h':Heap}
%tXOb.keeps{h h':Heap}{vs:%0G}(x:XOb h e C d vs)(k:∀q o,h.get? q=%b→h'.get? q=%b):XOb h' e C d vs:=let⟨oe,a,b⟩:=x;⟨oe,k _ _ a,b⟩
%tXT.keeps{v:Value}(x:XT X C e d H s v)(k:∀q o,s.heap.get? q=%b→h'.get? q=%b):XT X C e d H {s with heap:=h'} v:=by
 o⟨T,⟨ne,vs,oT,ts,o,h1,h2,h3⟩,r⟩:=x;e⟨T,⟨ne,vs,oT,ts,XOb.keeps o k,h1,k _ _ h2,h3⟩,r⟩
%thandle{hs:&1D}{cl:List (List Str×(Nat×FS ⊕ Str×#x))}(Hh:Hs g E X hs cl)(o:Own X)(hN:X.N.Nodup)(ok:X.Ok){D:Ends}{c:Str}{fs:#x}(hc:^K=#h):
 ∀{s:Shared} {σ:St} {H:Hp},XS X C e d σ H s→XT X C e d H s .none→%1X=%3td(fs.map λp=>(p.1,%7e))→FW g E %4Y (λ_=>none) (λ_=>0) 0 (OU X.N.length c fs cl) D→
  #i(handleBy #n X.env hs)(SP X [] D):=by
 induction Hh with
 |nil=>intro s σ H _ _ _ q;e &1G
 |@rer t b0 suite pos cs c' fs' r r' ht hs hr ih=>
  intro s σ H x f hd q;h hx:=x.1;o0;v8;u OU at q;f1
  ·rw[if_pos hm] at q;rw[decide_eq_true hm,%9l];r codeAny_handlers_suite (KR (fr:=none) ⟨I2,x.2⟩ f2 λs3 x3 f3=>?_);e wpAny_mono (hs c C e d σ H s3 hm hc x3.1 x3.2 q) (λ_ _ z=>z.elim) λ_ _ z=>z
  ·v4
   e ih ⟨I2,x.2⟩ f2 hd q
 |@as t b0 suite pos cs ff r r' n i ht hi hl hs hr ih=>
  intro s σ H x f hd q;h hx:=x.1;o0;v8;u OU at q;f1
  ·rw[if_pos hm] at q;rw[decide_eq_true hm,%9l];r codeAny_handlers_suite_as (KR (fr:=none) ⟨I2,x.2⟩ f2 λs3 x3 f3=>?_);r Qr (v:=V.ref e) x3.1 hN hi (.inl hl) rfl (λs4 I4=>?_) (.inr hl)
   h hde:d≠e:=λz=>by
    y;o⟨mA,⟨od,es,ep,e1,e2,_⟩,_⟩:=XG hx hd;o⟨vs,oe',g1',_,_,da,_⟩:=(show C2 X.prog X.w H s.heap d (XO C d d) from hx.hok d _ x.2).1;rw[e1] at g1';c g1'
    first|(rw[da] at e2;c e2)|(rw[e2] at da;c da)
   h R0:#K(upd (upd (λ_=>none) d (XD d (fs.map λp=>(p.1,%7e)))) e (XO C d e))(λ_=>0) []H:=by
    r⟨λa o z=>?_,λi z _=>%7Mz _,λi j z=>%7Mz _,λi o z=>by simp at z⟩;by_cases za:a=e
    ·subst za;rw[Bi] at z;c z;e x.2
    ·rw[Ay za] at z;by_cases zd:a=d
     ·subst zd;rw[Bi] at z;c z;e hd
     ·rw[Ay zd] at z;c z
   h rx:RW g (upd (upd (λ_=>none) d (XD d (fs.map λp=>(p.1,%7e)))) e (XO C d e)) (λ_=>0) 0 (.xc c fs) #n:=.xc hc Bi (by rw[Ay hde];e Bi);h RN0:RN g (upd (upd (λ_=>none) d (XD d (fs.map λp=>(p.1,%7e)))) e (XO C d e)) (λ_=>0) 0 (%5SX.N.length) σ:=⟨by rw[List.length_replicate];e I2.len.symm,λi x z=>by rw[List.getElem?_replicate] at z;split at z<;>c z⟩;h q2:=Gq (Le.zero (F:=upd (upd (λ_=>none) d (XD d (fs.map λp=>(p.1,%7e)))) e (XO C d e)) (m:=λ_=>0) (n:=0)) q;r wpAny_mono (hs e [] s4 (%8o(%ee)) H {nx:=λ_ _=>False,rt:=D.rt} I4.toH ⟨_,λ_=>0,[],(%5SX.N.length).set i (some (.xc c fs)),R0,RN0.set i rx,?_⟩) (λfl s5 h5=>?_) λ_ _ z=>%9f
   ·cases ef:ff ((%5SX.N.length).set i (some (.xc c fs))) [] with
    |rt v h1=>rw[ef] at q2;e q2
    |_=>rw[ef] at q2;e False.elim q2
   ·cases fl with
    |ret u=>
     o⟨v,σ',H',I5,rv,q5⟩:=h5
     e name_goes (I5.ofH ok) hl λs6 I6=>⟨v,_,H',I6,rv,q5⟩
    |next=>o⟨_,_,_,z⟩:=h5;e %9f
    |brk=>o⟨_,_,_,z⟩:=h5;e %9f
    |cont=>o⟨_,_,_,z⟩:=h5;e %9f
  ·v4;e ih ⟨I2,x.2⟩ f2 hd q
%trH{N:Nat}{c:Str}{fs:#x}:∀{cl:List (List Str×(Nat×FS ⊕ Str×#x))},(∀p∈cl,∀c∈p.1,∃C,^K=#h)→OU N c fs cl≠.bad→∃C,^K=some C
 |[],_,z=>^Uz
 |(cs,.inl (i,f))::r,hcl,z=>by
  f1
  ·e hcl _ (List.mem_cons_self ..) c hm
  ·u OU at z;rw[if_neg hm] at z;e rH (λp q=>hcl p (#aq)) z
 |(cs,.inr (i,f))::r,hcl,z=>by
  f1
  ·e hcl _ (List.mem_cons_self ..) c hm
  ·u OU at z;rw[if_neg hm] at z;e rH (λp q=>hcl p (#aq)) z
%tY7{body:%0V}{h0:ExceptHandler}{hs:&1D}{fb:FS}{cl:List (List Str×(Nat×FS ⊕ Str×#x))}{pos:Pos}(o:Own X)(hN:X.N.Nodup)(hcl:∀p∈cl,∀c∈p.1,∃C,^K=#h)
 (hb:∀E' xe,XOk (X.KS xe) E'→DSs g E' (X.KS xe) body fb) (Hh:Hs g E X (h0::hs) cl) {s:Shared} {σ:St} {H:Hp} {D:Ends} (I:Inv X [] σ H s) {F:Hp} {m:Nat→Addr} {h:%a} {τ:Sa} (R:&C) (N:%5Gg F m τ σ)
 (hx:∀c fs,fb τ h=%5a→FW g E %4Y (λ_=>none) (λ_=>0) 0 (OU X.N.length c fs cl) D) (hn:(∀c fs,fb τ h≠%5a)→FW g E %4Y F m h.length (fb τ h) D):
 #i(exec (.Try body (h0::hs) [] [] pos) X.env)(SP X [] D):=by
 let xe':Value→Shared→Prop:=λe s1=>%1y(noteFrame e X.env)(λ_ s2=>%1y(setFlight e none)(λ_ s3=>%1y(handleBy e X.env (h0::hs))(SP X [] D)s3)s2)s1
 let E':XK:=λcv od H'=>∃c C d fs,cv=^d∧od=%0z∧^K=#h∧H' d=%3td(fs.map λp=>(p.1,%7e))∧FW g E %4Y (λ_=>none) (λ_=>0) 0 (OU X.N.length c fs cl) D
 h xok:XOk (X.KS xe') E':=by
  rintro C ev s' ⟨σ1,H1,e,d,rfl,⟨I1,he⟩,f,c,C',d',fs,z1,z2,hc,hd,p⟩;c z1;c z2;r XF (X:=X) o I.ok.frames ⟨I1.Im,he⟩ f λs2 x2 f2=>KR (fr:=none) x2 f2 λs3 x3 f3=>?_;e handle Hh o hN I.ok hc x3 f3 hd p
 h hb':=hb E' xe' xok [] s σ H D (I.KS _) ⟨F,m,h,τ,R,N,?_⟩
 ·r wpAny_Try_except (wpAny_mono hb' (λf s1 q=>?_) λ_ _ z=>z);h q:=SP.Im q
  cases f with
  |next=>e wpAny_execs_nil q
  |ret v=>e q
  |brk=>e q
  |cont=>e q
 ·cases ef:fb τ h with
  |nx σ h1=>rw[ef] at hn;e hn (λ_ _ z=>by c z)
  |rt v h1=>rw[ef] at hn;e hn (λ_ _ z=>by c z)
  |bad=>rw[ef] at hn;e hn (λ_ _ z=>by c z)
  |exc c fs=>
   have P:=hx c fs ef;o⟨C,hC⟩:=rH (g:=g) hcl (λz=>by rw[z] at P;e P);e⟨C,hC,λd H' hd=>⟨c,C,d,fs,rfl,rfl,hC,hd,P⟩⟩
%tnZ{body:%0V}{h0:ExceptHandler}{hs:&1D}{fb:FS}{cl:List (List Str×(Nat×FS ⊕ Str×#x))}{pos:Pos}(o:Own X)(hN:X.N.Nodup)(hcl:∀p∈cl,∀c∈p.1,∃C,^K=#h)(hr:∀p∈cl,p.2.isRight=true)
 (hb:∀E' xe,XOk (X.KS xe) E'→DSs g E' (X.KS xe) body fb) (Hh:Hs g E X (h0::hs) cl):DS0 g E X (.Try body (h0::hs) [] [] pos) (OQ X.N.length fb cl):=by
 intro s σ H D I q;e6
 h noRt:∀{c:Str} {fs:#x} (cl':List (List Str×(Nat×FS ⊕ Str×#x))),(∀p∈cl',p.2.isRight=true)→FW g E %4Y F m h.length (OU X.N.length c fs cl') D→FW g E %4Y (λ_=>none) (λ_=>0) 0 (OU X.N.length c fs cl') D:=by
  intro c fs cl'
  induction cl' with
  |nil=>intro _ z;e %9f
  |cons p r ih=>
   intro hp z;o⟨cs,v⟩:=p
   cases v with
   |inl v=>e %0b(hp _ (List.mem_cons_self ..))
   |inr v=>
    o⟨c',fs'⟩:=v;u OU at z ⊢;f1
    ·rw[if_pos hm] at z ⊢;e z
    ·rw[if_neg hm] at z ⊢;e ih (λp q=>hp p (#aq)) z
 z7
 ·u OQ at P;rw[e] at P;e noRt cl hr P
 ·u OQ at P
  cases ef:fb τ h with
  |exc c fs=>e absurd ef (hne c fs)
  |nx σ h1=>rw[ef] at P;e P
  |rt v h1=>rw[ef] at P;e P
  |bad=>rw[ef] at P;e P
end
%dZw(g:Wd)(E:XK)(r:SR)(D:Ends):Prop:=match r with
 |.nx σ h'=>∀F' m' H' τ,#KF' m' h' H'→RN g F' m' h'.length σ τ→D.nx τ H'
 |.rt v h'=>∀F' m' H' b,#KF' m' h' H'→RW g F' m' h'.length v b→D.rt b H'
 |.exc c fs=>EX g E c fs
 |.bad=>False
%dwS0(g:Wd)(E:XK)(f:FS):TS:=λD τ H=>∃F m h σ,&C∧%5Gg F m σ τ∧Zw g E (f σ h) D
%tZw.toS{g:Wd}{E:XK}{r:SR}{D:Ends}(F:Hp)(m:Nat→Addr)(n:Nat)(h:Zw g E r D):FW g E %4Y F m n r D:=by
 cases r with
 |nx σ h1=>e λF1 m1 H1 τ l R1 N1=>h F1 m1 H1 τ R1 N1
 |rt v h1=>e λF1 m1 H1 τ l R1 N1=>h F1 m1 H1 τ R1 N1
 |exc c fs=>e h
 |bad=>e h
section
variable{g:Wd}{E:XK}{X:Cx}{st:Stmt}{sts:List Stmt}{s1 s2:FS}
%tuW(h:DS g E X st s1):PS0 X st (wS0 g E s1):=(PS.to0 h).imp λD σ H ⟨F,m,h,τ,R,N,P⟩=>⟨F,m,h,τ,R,N,P.toS _ _ _⟩
%tpY(h1:PS0 X st (wS0 g E s1))(h2:Ou X sts (wS0 g E s2)):Ou X (st::sts) (wS0 g E (Ag s1 s2)):=(WQ h1 h2).imp λD σ H ⟨F,m,h,τ,R,N,P⟩=>by
 i0;u Ag at P
 cases e:s1 τ h with
 |nx σ h1=>rw[e] at P;e λF1 m1 H1 τ R1 N1=>⟨F1,m1,h1,σ,R1,N1,P⟩
 |rt v h1=>rw[e] at P;e P
 |exc c fs=>rw[e] at P;e P
 |bad=>rw[e] at P;e P
%tsT(h1:PS0 X st (wS0 g E s1)):Ou X [st] (wS0 g E s1):=Ou.one h1
%tsS{body:%0V}{h0:ExceptHandler}{hs:&1D}{fb:FS}{cl:List (List Str×(Nat×FS ⊕ Str×#x))}{pos:Pos}(o:Own X)(hN:X.N.Nodup)(hcl:∀p∈cl,∀c∈p.1,∃C,^K=#h)
 (hb:∀E' xe,XOk (X.KS xe) E'→DSs g E' (X.KS xe) body fb) (Hh:Hs g E X (h0::hs) cl):PS0 X (.Try body (h0::hs) [] [] pos) (wS0 g E (OQ X.N.length fb cl)):=by
 intro s σ H D I q;e6;z7
 ·u OQ at P;rw[e] at P;e P.toS _ _ _
 ·u OQ at P
  cases ef:fb τ h with
  |exc c fs=>e absurd ef (hne c fs)
  |nx σ h1=>rw[ef] at P;e Zw.toS (r:=%1Vh1) _ _ _ P
  |rt v h1=>rw[ef] at P;e Zw.toS (r:=.rt v h1) _ _ _ P
  |bad=>rw[ef] at P;e P
end
%tj8{CX:CXT}{P:Program}{w:World}{K:PySem.W.Frag}{mg:Str→&f}{base:Heap}{k:Nat}{x qual:Str}{st:Stmt}{f:Addr}{fd:FuncData}{N ps:%u}{sp:Sp}(F:Fun K x qual st f fd)(S:%yN ps st)
 (len:∀vs H Q E,sp vs H Q E→vs.length=ps.length)
 (hbody:∀(cdv:Value) (A:Around) (outer:^y) (s:Shared) (H:Hp) (vs:%c) (Q:VK) (E:XK),(%7mqual#e f cdv).frames=some (envOfC qual #e s.heap.objs.size f cdv::outer)→D3 k (%7mqual#e f cdv)→sp vs H Q E→
   ∃t,Ou (KH CX P w K mg base N qual #e f cdv A outer s H E) %4V t∧t {nx:=λ_ H'=>Q .non H',rt:=Q} %6F H):
 BC P w K mg base CX (k+1) f fd ps sp:=by
 d8;j8;j1
 h hkind:∀y∈%3P,#e.names.lookup y.1=%0U∨(#e.names.lookup y.1=%0H∧((&6T#e.names []).lookup y.1).isSome=true):=λ⟨n,v⟩ hy=>by
  l3
  ·e %6l
  ·m0
 i9;k5;o⟨t,ht,hq⟩:=hbody cdv A outer s H vs Q E (Around.frames_deeper e0.frames) (hr.deeper _) hsp;h I:Inv (KH CX P w K mg base N qual #e f cdv A outer s H E) [] %6F H s1:=S5 S hr.hd e0 hl r x;r wpAny_mono (ht s1 %6F H _ I hq) (λfl s' hs=>?_) λe s' hs=>hs
 h fin:∀{σ':St} {H':Hp} {v:V} {u:Value},Inv (KH CX P w K mg base N qual #e f cdv A outer s H E) [] σ' H' s'→%1p→Q v H'→CE outer P w H s Q u s':=
  λ{σ' H' v u} J rv q=>⟨v,H',J.os,J.bare,J.base,J.hok,rv,q⟩
 cases fl with
 |ret u=>
  o⟨v,σ',H',J,rv,q⟩:=hs
  e fin J rv q
 |next=>
  o⟨σ',H',J,q⟩:=hs
  e fin (v:=V.non) (u:=Value.none) J rfl q
 |brk=>
  c8
  e &1G
 |cont=>
  c8;e &1G
section
variable{g:Wd}{P:Program}{w:World}{mg:Str→Option Value}{base:Heap}{k:Nat}{x qual:Str}{st:Stmt}{f:Addr}{fd:FuncData}{N ps:List Str}{fb:FS}
%tuB(F:Fun g.K x qual st f fd)(S:%yN ps st)
 (hb:∀(cdv:Value) (A:Around) (outer:^y) (s:Shared) (H:Hp) (E:XK),D3 k (%7mqual#e f cdv)→XOk (KH (CXA P w) P w g.K mg base N qual #e f cdv A outer s H E) E→
   oX g E (KH (CXA P w) P w g.K mg base N qual #e f cdv A outer s H E) %4V fb):BC P w g.K mg base (CXA P w) (k+1) f fd ps (#Lps.length(BY N.length fb)):=by
 o5;r⟨wS g E fb,hb cdv A outer s H E hr (aO hfr),F,m,h,xs.map some++&5Q,R,?_,?_⟩
 ·u start;f5;e U0 _ r
 ·u BY at p;split at p
  ·rename_i v h' eb;rw[eb];e p
  ·rename_i σ h' eb;x9
  ·rename_i c fs eb;rw[eb];e p
  ·e False.elim p
%dwF0(g:Wd)(k:Nat)(f:FF):Sp:=λvs H Q E=>∃F m h xs,&C∧%7ug F m∧xs.length=k∧match f xs h with
 |.ok v h'=>∀F' m' H' b,#KF' m' h' H'→RW g F' m' h'.length v b→Q b H'
 |.exc c fs=>EX g E c fs
 |.bad=>False
%tvC(F:Fun g.K x qual st f fd)(S:%yN ps st)
 (hb:∀(cdv:Value) (A:Around) (outer:^y) (s:Shared) (H:Hp) (E:XK),D3 k (%7mqual#e f cdv)→XOk (KH (CXA P w) P w g.K mg base N qual #e f cdv A outer s H E) E→
   Ou (KH (CXA P w) P w g.K mg base N qual #e f cdv A outer s H E) %4V (wS0 g E fb)):BC P w g.K mg base (CXA P w) (k+1) f fd ps (wF0 g ps.length (BY N.length fb)):=by
 o5;r⟨wS0 g E fb,hb cdv A outer s H E hr (aO hfr),F,m,h,xs.map some++&5Q,R,?_,?_⟩
 ·u start;f5;e U0 _ r
 ·u BY at p
  cases eb:fb (xs.map some++&5Q) h with
  |rt v h'=>rw[eb] at p;e p
  |nx σ h'=>rw[eb] at p;e λF' m' H' τ R' N'=>p F' m' H' .non R' .non
  |exc c fs=>rw[eb] at p;e p
  |bad=>rw[eb] at p;e p
end
%dVE(f:Str):W→%a→Res W
 |.xc _ fs,h=>match fs.lookup f with
  |some i=>%s^x
  |none=>.bad
 |_,_=>.bad
section
variable{g:Wd}{E:XK}{X:Cx}{a:Expr}{fa:FE}{pos:Pos}{f:Str}
%tbO{fs:#x}{i:Int}:%3N=some i→(fs.map λp=>(p.1,%7e)).lookup f=%0fi:=by
 induction fs with
 |nil=>intro h;c h
 |cons p r ih=>
  o⟨k,v⟩:=p;intro h;by_cases q:(f==k)=true
  ·s[List.lookup,List.map,q] at h ⊢;c h;a
  ·m8;s[List.lookup,List.map,q] at h ⊢;e ih h
%tqN{ta:TE}{fI:Addr→Addr}{S:Addr→Prop}(cl:∀C,S C→C7 X.K C (fI C)=true)(hf:f="kind"∨f="place"∨f="number")(he:%6G)(hb:%4Ca f%5B=%5B):%k(%3Ta pos)(λσ H Q=>ta σ H λx H1=>∃C e d fs v,S C∧x=#n∧H1 e=some (XO C d e)∧H1 d=%3td fs∧d≠e∧%3N=%W∧Q v H1):=by
 j;r dU hb (thn (he pins s σ H _ I h) λu s1 ⟨x,H1,I1,rx,C,e,d,fs,v,hS,ex,ea,ed,ne,l,q⟩=>?_);P;obtain rfl:u=Value.ref e:=rx;e lL I1 (cl C hS) ea ed ne hf l λu' s2 I2 ru=>⟨v,H1,I2,ru,q⟩
%trT{fI:Addr→Addr}(cl:∀C,(∃c,^K=#h)→C7 X.K C (fI C)=true)(hf:f="kind"∨f="place"∨f="number")(ha:#Z)(hb:%4Ca f%5B=%5B:=by rfl):%R(%3Ta pos)(fUn (VE f) fa):=by
 r(qN (S:=λC=>∃c,^K=#h) cl hf (ta:=λσ H Q=>wE g E fa σ H λx H1=>(∀e d C,x=#n→H1 e=some (XO C d e)→∀fs,H1 d=%3td fs→d≠e)→Q x H1) ?_ hb).imp λσ H Q ⟨F,m,h,τ,R,N,P⟩=>⟨F,m,h,τ,R,N,AD P λx h1 F1 m1 H1 v l R1 rx P1 hne=>?_⟩
 ·j;r thn (ha pins s σ H _ I h) λu s1 ⟨x,H1,I1,rx,q⟩=>⟨x,H1,I1,rx,q λe d C ex he fs hd z=>?_⟩;y;o⟨mA,⟨od,es,ep,e1,e2,_⟩,_⟩:=XG I1 hd;o⟨vs,oe',g1',_,_,da,_⟩:=(show C2 X.prog X.w H1 s1.heap d (XO C d d) from I1.hok d _ he).1;rw[e1] at g1';c g1';rw[da] at e2;c e2
 ·cases rx with
  |xc hc h1' h2'=>
   u VE at P1;dsimp only at P1;S
   ·rename_i i el;e⟨_,_,_,_,_,⟨_,hc⟩,rfl,R1.frz _ _ h1',R1.frz _ _ h2',hne _ _ _ rfl (R1.frz _ _ h1') _ (R1.frz _ _ h2'),bO el,P1 F1 m1 H1 _ .refl R1 .int⟩
   ·e #N
  |_=>e #N
end
%doI(f:Int→Int→W):W→W→%a→Res W
 |.int i,%4f,h=>%s(f i j)
 |_,_,_=>.bad
%doIC(c:Int→Int→Bool)(f:Int→Int→W):W→W→%a→Res W
 |.int i,%4f,h=>if c i j=true then %s(f i j) else .bad
 |_,_,_=>.bad
%tBH{g:Wd}{f:Int→Int→W}{k:Int→Int→V}(hr:∀i j F m n,RW g F m n (f i j) (k i j)):Ad2 g (oI f) (rI0 k):=λF m h H x y v u Q E R rx ry P=>by
 c rx<;>first|e %j|(c ry<;>first|e %j|e⟨_,_,rfl,rfl,%5b(hr ..)⟩)
%tdY{g:Wd}{f:Int→Int→W}{k:Int→Int→V}{c:Int→Int→Bool}{C:Int→Int→Prop}(hC:∀i j,c i j=true→C i j)(hr:∀i j F m n,RW g F m n (f i j) (k i j)):Ad2 g (oIC c f) (rI C k):=λF m h H x y v u Q E R rx ry P=>by
 c rx<;>first|e %j|(c ry<;>first|e %j|(
  u oIC at P;a4;f
  ·a7;e⟨_,_,rfl,rfl,hC _ _ e,%5b(hr ..)⟩
  ·e %j))
%doU(f:Int→W):W→%a→Res W
 |.int i,h=>%s(f i)
 |_,_=>.bad
%tTh{g:Wd}:Ad1 g (oU λi=>%9v) (rU λi=>%9v):=λF m h H x v Q E R rx P=>by
 c rx<;>first|e %j|e⟨_,rfl,%7J⟩
%doEq(neg:Bool):W→W→%a→Res W
 |.int i,%4f,h=>&K(if neg then !decide (i=j) else decide (i=j))
 |.str i,.str j,h=>&K(if neg then !decide (i=j) else decide (i=j))
 |_,_,_=>.bad
%tdvi{i j:Int}:decide (V.int i=V.int j)=decide (i=j):=by simp
%tdvs{i j:Str}:decide (V.str i=V.str j)=decide (i=j):=by simp
%tC1{g:Wd}:Ad2 g &1k rEq:=λF m h H x y v u Q E R rx ry P=>by
 q9
%tpP{g:Wd}:Ad2 g (oEq true) rNe:=λF m h H x y v u Q E R rx ry P=>by
 q9
%dLr:W→Bool
 |.non=>true
 |_=>false
%doIs(neg:Bool):W→W→%a→Res W
 |x,.non,h=>&K(if neg then !Lr x else Lr x)
 |_,_,_=>.bad
%tW8{g:Wd}{F:Hp}{m:Nat→Addr}{n:Nat}{x:W}{v:V}(r:RW g F m n x v):decide (v=.non)=Lr x:=by c r<;>rfl
%tTi{g:Wd}:Ad2 g &0N (λx y H Q=>y=.non∧^N(decide (x=.non))H):=λF m h H x y v u Q E R rx ry P=>by
 x3
%toN{g:Wd}:Ad2 g (oIs true) (λx y H Q=>y=.non∧^N(!decide (x=.non))H):=λF m h H x y v u Q E R rx ry P=>by
 x3
%dAH:W→%a→Option %m
 |.lst xs,_=>%3k
 |.arg xs,_=>%3k
 |.ref i,h=>match h[i]? with
  |some %9D=>%3k
  |_=>none
 |_,_=>none
%dD4:W→Option %m
 |.tup xs=>%3k
 |.ktp xs=>%3k
 |_=>none
%dEm:W→%a→Option %m
 |.lst xs,_=>%3k
 |.ref i,h=>match h[i]? with
  |some %9D=>%3k
  |_=>none
 |_,_=>none
section
variable{g:Wd}{F:Hp}{m:Nat→Addr}{h:List O}{H:Hp}{x:W}{v:V}{xs:List W}
%tDs(R:&C)(r:^Wg F m x v)(e:AH x h=%3k):∃a vs,v=%N∧SqL g.K H a vs∧%7ug F m:=by
 cases r with
 |lst q r=>c e;e⟨_,_,rfl,SqL.of (R.frz _ _ q),r⟩
 |arg q r=>c e;e⟨_,_,rfl,Zb R.frz q,r⟩
 |ref hi=>
  a9;l8;o⟨u,e1,e2⟩:=R.obj _ _ q;u AH at e;s[q] at e
  cases e2 with
  |lst r2=>c e;e⟨_,_,rfl,SqL.of e1,r2⟩
  |_=>c e
 |_=>c e
%tOE(R:&C)(r:^Wg F m x v)(e:Em x h=%3k):∃a vs,v=%N∧&Q=%Vvs∧%7ug F m:=by
 cases r with
 |lst q r=>c e;e⟨_,_,rfl,R.frz _ _ q,r⟩
 |ref hi=>
  a9;l8;o⟨u,e1,e2⟩:=R.obj _ _ q;u Em at e;s[q] at e
  cases e2 with
  |lst r2=>c e;e⟨_,_,rfl,e1,r2⟩
  |_=>c e
 |_=>c e
%tFP(R:&C)(r:^Wg F m x v)(e:D4 x=%3k):∃a vs,v=%N∧SqT g.K H a vs∧%7ug F m:=by
 cases r with
 |tup q r=>c e;e⟨_,_,rfl,SqT.of (R.frz _ _ q),r⟩
 |ktp q hc hd ho hz hv r=>c e;e⟨_,_,rfl,.inr ⟨_,_,_,q,hc,ho,hz,hv⟩,r⟩
 |_=>c e
%tjF{vs:%c}{Q:VK}{E:XK}(R:&C)(r:%7ug F m)(P:^ug E%1t F m(%3jxs)Q):∀p,%0q=none→%1S(^VH p vs):=λp hp=>
 P (^VF p vs) m _ _ (.frz (R.TU hp)) (R.ny hp) (.lst Bi (r.mono (.frz (R.TU hp))))
%tuc{vs:%c}{Q:VK}{E:XK}(R:&C)(r:%7ug F m)(P:^ug E%1t F m(%9Fxs)Q):∀p,%0q=none→%1S(%Yp(.tup vs)):=λp hp=>
 P (upd F p (.tup vs)) m _ _ (.frz (R.TU hp)) (R.ny hp) (.tup Bi (r.mono (.frz (R.TU hp))))
%trm{vs:%c}{Q:VK}{E:XK}(R:&C)(r:%7ug F m)(P:^ug E%1t F m(%0T(h++[.lst xs]))Q):∀p,%0q=none→%1S(^VH p vs):=λp hp=>by
 h hl:(h++[O.lst xs]).length=h.length+1:=by simp
 h:=P F (ext m h.length p) (^VH p vs) (.ref (ext m h.length p h.length)) (by rw[hl];e .new) (R.fQ hp (.lst r)) (.ref (by rw[hl];e %0s))
 rwa[Fv] at this
end
section
variable{g:Wd}{E:XK}{X:Cx}{a b:Expr}{fa fb:FE}{fl:FA}{pos:Pos}{es:List Expr}{x1:Nat}
%doLst:%m→%a→%p:=λxs h=>if xs.length≤sizeLine then %3jxs else .bad
%doTup:%m→%a→%p:=λxs h=>if xs.length≤sizeLine then %9Fxs else .bad
%dEl:%m→%a→%p:=λxs h=>if xs.length≤sizeLine then %0T(h++[.lst xs]) else .bad
%tsF:AdN g oLst (λxs H1 Q=>xs.length≤sizeLine∧∀p,H1 p=none→%1S(^VH1 p xs)):=λF m h H xs vs Q E R r P=>by
 u oLst at P;f
 ·a7;e⟨by rw[←r.length];e e,jF R r P⟩
 ·g
%tsx:AdN g oTup (λxs H1 Q=>xs.length≤sizeLine∧∀p,H1 p=none→%1S(upd H1 p (.tup xs))):=λF m h H xs vs Q E R r P=>by
 u oTup at P;f
 ·a7;e⟨by rw[←r.length];e e,uc R r P⟩
 ·g
%tsD:AdN g El (λxs H1 Q=>xs.length≤sizeLine∧∀p,H1 p=none→%1S(^VH1 p xs)):=λF m h H xs vs Q E R r P=>by
 u El at P;f
 ·a7;e⟨by rw[←r.length];e e,rm R r P⟩
 ·g
%tII(h:DA g E X es fl):%R(.List es pos)(%4Ufl):=(jl h).imp λσ H Q=>wN sF
%tLD(h:DA g E X es fl):%R(.List es pos)(fN El fl):=(jl h).imp λσ H Q=>wN sD
%tTX(h:DA g E X es fl):%R(.Tuple es x1 pos)(fN oTup fl):=(qO h).imp λσ H Q=>wN sx
%dLg:W→W→%a→%p:=λx y h=>match Em x h,Em y h with
 |some xs,some ys=>if xs.length+ys.length≤sizeLine then %3j(xs++ys) else .bad
 |_,_=>.bad
%tTj:Ad2 g Lg tV:=λF m h H x y v u Q E R rx ry P=>by
 u Lg at P;f
 ·rename_i xs ys e1 e2;o⟨p,vs,rfl,q1,r1⟩:=OE R rx e1;o⟨q,us,rfl,q2,r2⟩:=OE R ry e2;f
  ·E;e⟨p,q,vs,us,rfl,rfl,q1,q2,by rw[←r1.length,←r2.length];e hz,jF R (r1.append r2) P⟩
  ·g
 ·g
%djy:W→W→%a→%p:=λx y h=>match Em x h,y with
 |some xs,.int k=>if-(2^63)≤k∧k<2^63∧xs.length*k.toNat≤sizeLine then %3j(List.replicate k.toNat xs).flatten else .bad
 |_,_=>.bad
%tRWs.rep{F:Hp}{m:Nat→Addr}{n:Nat}{xs:%m}{vs:%c}(r:^eg F m n):∀k,RWs g F m n (%7Txs).flatten (%7Tvs).flatten
 |0=>.nil
 |k+1=>by rw[List.replicate_succ,List.replicate_succ,List.flatten_cons,List.flatten_cons];e r.append (RWs.rep r k)
%tsA:Ad2 g jy tQ:=λF m h H x y v u Q E R rx ry P=>by
 u jy at P;f
 ·rename_i xs k e1;o⟨p,vs,rfl,q1,r1⟩:=OE R rx e1;c ry;f
  ·E;e⟨p,k,vs,rfl,rfl,q1,hz.1,hz.2.1,by rw[←r1.length];e hz.2.2,jF R (r1.rep _) P⟩
  ·g
 ·g
%dEA:W→Bool
 |.int _=>true
 |.str _=>true
 |_=>false
%deqW:W→W→Bool
 |.int i,%4f=>i==j
 |.str i,.str j=>i==j
 |_,_=>false
%dinW(x:W)(xs:%m):Bool:=xs.any λy=>eqW y x
%dUq(neg:Bool):W→W→%a→%p:=λx y h=>match(AH y h).orElse λ_=>D4 y with
 |some xs=>if(EA x&&xs.all EA)=true then &K(if neg then !inW x xs else inW x xs) else .bad
 |none=>.bad
%tN5{F:Hp}{m:Nat→Addr}{n:Nat}{x:W}{v:V}(r:RW g F m n x v)(h:EA x=true):Hm v=true:=by c r<;>first|rfl|c h
%tb8{F:Hp}{m:Nat→Addr}{n:Nat}{x y:W}{v u:V}(r:RW g F m n x v)(q:RW g F m n y u)(h:EA x=true)(h':EA y=true):eqV v u=eqW x y:=by
 c r<;>first|(c h;done)|(c q<;>first|(c h';done)|rfl)
%tjY{F:Hp}{m:Nat→Addr}{n:Nat}{x:W}{v:V}(r:RW g F m n x v)(h:EA x=true):∀{xs:%m} {vs:%c},^eg F m n→xs.all EA=true→inV v vs=inW x xs∧vs.all Hm=true
 |_,_,.nil,_=>⟨rfl,rfl⟩
 |_,_,.cons (x:=y) (xs:=ys) q s,e=>by
  h e:(EA y&&ys.all EA)=true:=e;rw[Bool.and_eq_true] at e;o⟨i1,i2⟩:=jY r h s e.2;r⟨?_,?_⟩
  ·show(eqV _ _||inV _ _)=(eqW _ _||inW _ _);rw[i1,b8 q r e.1 h]
  ·show(Hm _&&_)=true;rw[N5 q e.1,i2]
   all_goals rfl
%taH(neg:Bool):Ad2 g (Uq neg) (rIn g.K neg):=λF m h H x y v u Q E R rx ry P=>by
 u Uq at P;f
 ·rename_i xs e;f
  ·n6
   h fin:∀vs,%7ug F m→^N(if neg then !inV v vs else inV v vs)H∧vs.all Hm=true:=λvs r=>by
    o⟨i1,i2⟩:=jY rx hz.1 r hz.2;e⟨by rw[i1];e %5L,i2⟩
   cases q:AH y h with
   |some ys=>
    O;d;o⟨p,vs,rfl,q1,r1⟩:=Ds R ry q
    e⟨p,vs,rfl,.inl q1,N5 rx hz.1,(fin vs r1).2,(fin vs r1).1⟩
   |none=>
    O;h e:D4 y=%3k:=e;o⟨p,vs,rfl,q1,r1⟩:=FP R ry e;e⟨p,vs,rfl,.inr q1,N5 rx hz.1,(fin vs r1).2,(fin vs r1).1⟩
  ·g
 ·g
%dVf(neg:Bool):W→W→%a→Res W
 |.str x,&1c,h=>match x.cps.toList with
  |[c]=>&K(if neg then !decide (c∈z.cps.toList) else decide (c∈z.cps.toList))
  |_=>.bad
 |_,_,_=>.bad
%tlj{neg:Bool}:Ad2 g (Vf neg) (λx y H Q=>∃(c:Nat) (z:Str),x=%9k∧y=&1c∧^N(if neg then !decide (c∈z.cps.toList) else decide (c∈z.cps.toList))H):=λF m h H x y v u Q E R rx ry P=>by
 c rx<;>first|e %j|(c ry<;>first|e %j|(
  rename_i x y;u Vf at P;a4;f
  ·rename_i c e;r⟨c,y,?_,rfl,%5L⟩;o⟨⟨l⟩⟩:=x;h e:l=[c]:=e;p;a
  ·e %j))
end
section
variable{g:Wd}{E:XK}{X:Cx}{a b e o:Expr}{fa fb:FE}{fl:FA}{pos p p2 apos:Pos}{es:List Expr}{x:Str}{id T:String}
%doIx:W→W→%a→%p:=λx y h=>match y with
 |.int i=>match x with
  |.str z=>if z.length≤sizeLine then match atI z.cps.toList i with
   |some c=>%s%9k
   |none=>.bad
   else .bad
  |x=>match(AH x h).orElse λ_=>D4 x with
   |some xs=>match atI xs i with
    |some v=>%8D
    |none=>.bad
   |none=>.bad
 |_=>.bad
%tRWs.atI{F:Hp}{m:Nat→Addr}{n:Nat}{xs:%m}{vs:%c}{i:Int}{x:W}(r:^eg F m n)(e:L2.atI xs i=%v):∃v,L2.atI vs i=%W∧RW g F m n x v:=by
 u L2.atI at e ⊢;f5
 cases q:ixN xs.length i with
 |none=>rw[q] at e;c e
 |some j=>
  O;e r.get (i:=j) e
%tuN:Ad2 g oIx (rIx g.K):=λF m h H x y v u Q E R rx ry P=>by
 c ry<;>try e %j
 a9
 h go:∀xs,((AH x h).orElse λ_=>D4 x)=%3k→^ug E%1t F m(match atI xs i with|some v=>%8D|none=>.bad)Q→rIx g.K v ^x H Q:=by
  intro xs e P
  cases ea:atI xs i with
  |none=>rw[ea] at P;e %j
  |some w=>
   rw[ea] at P
   cases q:AH x h with
   |some ys=>
    O;d;o⟨p,vs,rfl,q1,r1⟩:=Ds R rx q;o⟨z,h1,h2⟩:=r1.atI ea
    e .inl ⟨p,vs,i,z,rfl,rfl,q1,h1,%5bh2⟩
   |none=>
    O;o⟨p,vs,rfl,q1,r1⟩:=FP R rx (show D4 x=some xs from e);o⟨z,h1,h2⟩:=r1.atI ea;e %7O⟨p,vs,i,z,rfl,rfl,q1,h1,%5bh2⟩
 cases x with
 |str z=>
  m;u oIx at P;a4;f
  ·E;f
   ·rename_i c ec;e ^b⟨z,i,c,rfl,rfl,hz,ec,%5b.str⟩
   ·g
  ·e %j
 |_=>
  u oIx at P;a4;f
  ·rename_i xs exs;e go xs exs P
  ·g
%tLF(hK:g.K=X.K)(ha:#Z)(hb:%3A)(hs:d7 b:=by intro _ _;rfl):%R(%9ra b)(%3xfa fb):=(t9 (rG (X:=X)) ha hb hs).imp λσ H Q h=>by
 rw[←hK];e Y4 uN h
abbrev FO:=Sa→%a→Res %S
%dfNo:FO:=λ_ h=>%snone
%dMS(a:FE):FO:=λσ h=>(a σ h).bind λx h1=>match x with
 |.int i=>^n(some i)
 |_=>.bad
%dwO(g:Wd)(E:XK)(f:FO):TO:=λτ H Q=>∃F m h σ,&C∧%5Gg F m σ τ∧^ug E(λ_ _ _ a b=>a=b)F m(f σ h)Q
abbrev DO(g:Wd)(E:XK)(X:Cx)(e:&2K)(f:FO):Prop:=PO X e (wO g E f)
%tPO.imp{e:&2K}{t t':TO}(h:PO X e t)(k:∀σ H Q,t' σ H Q→t σ H Q):PO X e t':=λpins s σ H Q I q=>h pins s σ H Q I (k σ H Q q)
%tUz:DO g E X none fNo:=PO.imp mO λσ H Q ⟨F,m,h,τ,R,N,P⟩=>%6Inone rfl
%tOJ(h:%4Se):DO g E X (some e) (MS fa):=PO.imp (mM h) λσ H Q ⟨F,m,h,τ,R,N,P⟩=>⟨F,m,h,τ,R,N,AD P λx h1 F1 m1 H1 v l R1 rx P1=>by
 c rx<;>first|e #N|e⟨_,rfl,P1 F1 m1 H1 _ .refl R1 rfl⟩⟩
%dax(xs:%m)(lo hi:%S):%m:=(xs.drop (%7a0 lo)).take (HT.sIx xs.length xs.length hi-%7a0 lo)
%dfSl(o:W→%S→%S→%a→%p)(a:FE)(lo hi:FO):FE:=λσ h=>(a σ h).bind λx h1=>(lo σ h1).bind λl h2=>(hi σ h2).bind λu h3=>o x l u h3
%dZD(x:W)(lo hi:%S)(h:%a):%p:=match AH x h with
 |some xs=>%3j(ax xs lo hi)
 |none=>.bad
%dZC(x:W)(lo hi:%S)(h:%a):%p:=match D4 x with
 |some xs=>if %7a0 lo=0∧%7axs.length hi=xs.length then .bad else %9F(ax xs lo hi)
 |none=>.bad
%dfK(x:W)(lo hi:%S)(h:%a):%p:=match x with
 |.str z=>if z.length≤sizeLine then %s(.str (kN z lo hi)) else .bad
 |_=>.bad
%dAdS(g:Wd)(f:W→%S→%S→%a→%p)(r:V→%S→%S→Hp→VK→Prop):Prop:=∀(F:Hp) (m:Nat→Addr) (h:%a) (H:Hp) (x:W) (v:V) (lo hi:%S) (Q:VK) (E:XK),&C→^Wg F m x v→^ug E%1t F m(f x lo hi h)Q→r v lo hi H Q
%tRWs.cut{F:Hp}{m:Nat→Addr}{n:Nat}{xs:%m}{vs:%c}(r:^eg F m n)(lo hi:%S):RWs g F m n (ax xs lo hi) (ay vs lo hi):=by
 u ax ay;f5;e(r.drop _).take _
%tsy:AdS g ZD (tP g.K):=λF m h H x v lo hi Q E R rx P=>by
 u ZD at P;f
 ·rename_i xs e;o⟨p,vs,rfl,q1,r1⟩:=Ds R rx e;e⟨p,vs,rfl,q1,jF R (r1.cut lo hi) P⟩
 ·g
%tlg:AdS g ZC (tN g.K):=λF m h H x v lo hi Q E R rx P=>by
 u ZC at P;f
 ·rename_i xs e;o⟨p,vs,rfl,q1,r1⟩:=FP R rx e;f
  ·g
  ·rename_i hw;e⟨p,vs,rfl,q1,by rw[←r1.length];e hw,uc R (r1.cut lo hi) P⟩
 ·g
%tlh:AdS g fK tO:=λF m h H x v lo hi Q E R rx P=>by
 c rx<;>first|e %j|(
  u fK at P;a4;f
  ·E;e⟨_,rfl,hz,%5b.str⟩
  ·e %j)
%tR9{r:V→%S→%S→Hp→VK→Prop}{o:W→%S→%S→%a→%p}{lo hi:&2K}{f1 f2:FO}(hr:SlR X r)(ad:AdS g o r)(ha:#Z)(hl:DO g E X lo f1)(hu:DO g E X hi f2):%R(%9ra(.Slice lo hi none p2))(fSl o fa f1 f2):=
 (ji hr ha hl hu).imp λσ H Q ⟨F,m,h,τ,R,N,P⟩=>⟨F,m,h,τ,R,N,AD P λx h1 F1 m1 H1 v l R1 rx P1=>⟨F1,m1,h1,τ,R1,#d,AD P1 λlo h2 F2 m2 H2 lo' l2 R2 e2 P2=>⟨F2,m2,h2,τ,R2,#d.mono l2,AD P2 λhi h3 F3 m3 H3 hi' l3 R3 e3 P3=>by
   c e2;c e3
   e ad F3 m3 h3 H3 x v lo hi Q E R3 (%6a.mono l3) P3⟩⟩⟩
%tBP{r:%c→Hp→VK→Prop}{o:%m→%a→%p}(hc:Hq X %6T r)(ad:AdN g o r)(hg:Gl X x)(hm:%0X=none)(hv:&1A=some %6T)(ha:DA g E X (e::es) fl)(hn:x≠"__name__":=by decide)(hdb:(x==("__debug__":Str))=false:=by decide)
 (he:%3d=(false,#u)::%1m:=by rfl) (hpl:%5x.any (·.1)=false:=by rfl):%R(&1hx p)(fN o fl):=(jq hc hg hm hv ha hn hdb he hpl).imp λσ H Q=>wN ad
%tVO{r:%c→Hp→VK→Prop}{o:%m→%a→%p}(hc:Hq X (.type T) r)(ad:AdN g o r)(hg:Gl X x)(hm:%0X=none)(hv:&1A=some (.type T))(ha:DA g E X (e::es) fl)(hn:x≠"__name__":=by decide)(hdb:(x==("__debug__":Str))=false:=by decide)
 (he:%3d=(false,#u)::%1m:=by rfl) (hpl:%5x.any (·.1)=false:=by rfl):%R(&1hx p)(fN o fl):=(fD hc hg hm hv ha hn hdb he hpl).imp λσ H Q=>wN ad
%tPU{F:Hp}{m:Nat→Addr}{h:%a}{H:Hp}{i:Nat}{v:V}(R:&C)(r:^Wg F m(.ref i)v):∃o u,v=.ref (m i)∧i<h.length∧h[i]? =%b∧H (m i)=%x∧RO g F m h.length o u:=by
 cases r with
 |ref hi=>
  o⟨u,e1,e2⟩:=R.obj i h[i] %3D;e⟨_,u,rfl,hi,%3D,e1,e2⟩
%dNO:W→%a→Option Nat
 |.str z,_=>if z.length≤sizeLine then some z.length else none
 |.lst xs,_=>&4M
 |.arg xs,_=>&4M
 |.tup xs,_=>&4M
 |.ktp xs,_=>&4M
 |.ref i,h=>match h[i]? with
  |some %9D=>&4M
  |some %3W=>some kvs.length
  |_=>none
 |_,_=>none
%dBM:%m→%a→%p:=λxs h=>match xs with
 |[x]=>match NO x h with
  |some n=>%1Fn
  |none=>.bad
 |_=>.bad
%dtR(K:PySem.W.Frag):%c→Hp→VK→Prop:=λxs H Q=>(∃p ys,xs=[.ref p]∧(SqL K H p ys∨SqT K H p ys)∧%4oys.length H)∨(∃z,xs=[.str z]∧z.length≤sizeLine∧%4oz.length H)∨∃a kvs,xs=[V.ref a]∧&Q=%5p∧%4okvs.length H
%tCH:Hq X &4C (tR X.K):=YQ.or (YO.or gI)
%tRWs.inv1{F:Hp}{m:Nat→Addr}{n:Nat}{x:W}{vs:%c}(r:RWs g F m n [x] vs):∃v,vs=[v]∧RW g F m n x v:=by
 cases r with
 |cons h t=>c t;e⟨_,rfl,h⟩
%tRWs.inv2{F:Hp}{m:Nat→Addr}{n:Nat}{x y:W}{vs:%c}(r:RWs g F m n [x,y] vs):∃v u,vs=[v,u]∧RW g F m n x v∧RW g F m n y u:=by
 cases r with
 |cons h t=>o⟨u,rfl,q⟩:=t.inv1;e⟨_,u,rfl,h,q⟩
%tCK:AdN g BM (tR g.K):=λF m h H xs vs Q E R r P=>by
 match xs,r,P with
 |[],_,P=>e %j
 |_::_::_,_,P=>e %j
 |[x],r,P=>
  o⟨v,rfl,rx⟩:=r.inv1;u BM at P;a4
  cases x with
  |str z=>
   m;u NO at P;a4;by_cases hz:z.length≤sizeLine
   ·rw[if_pos hz] at P;e %7O⟨z,rfl,hz,%7J⟩
   ·rw[if_neg hz] at P;e %j
  |lst ys=>
   o⟨p,vs,rfl,q1,r1⟩:=Ds R rx rfl
   e .inl ⟨p,vs,rfl,.inl q1,by rw[←r1.length];e %7J⟩
  |arg ys=>
   o⟨p,vs,rfl,q1,r1⟩:=Ds R rx rfl
   e .inl ⟨p,vs,rfl,.inl q1,by rw[←r1.length];e %7J⟩
  |tup ys=>
   o⟨p,vs,rfl,q1,r1⟩:=FP R rx rfl
   e .inl ⟨p,vs,rfl,.inr q1,by rw[←r1.length];e %7J⟩
  |ktp ys=>
   o⟨p,vs,rfl,q1,r1⟩:=FP R rx rfl
   e .inl ⟨p,vs,rfl,.inr q1,by rw[←r1.length];e %7J⟩
  |ref i=>
   o⟨ob,u,rfl,hi,e,e1,e2⟩:=PU R rx;u NO at P;s[e] at P
   cases e2 with
   |lst r2=>e .inl ⟨_,_,rfl,.inl (SqL.of e1),by rw[←r2.length];e %7J⟩
   |dct r2=>e ^b⟨_,_,rfl,e1,by rw[←r2.length];e %7J⟩
   |_=>e %j
  |_=>e %j
%dfM1(o:Str→W→%a→%p)(a b:FE):FE:=λσ h=>(a σ h).bind λx h1=>match x with
 |.str z=>(b σ h1).bind λy h2=>o z y h2
 |_=>.bad
%dfM0(o:Str→%a→%p)(a:FE):FE:=λσ h=>(a σ h).bind λx h1=>match x with
 |.str z=>o z h1
 |_=>.bad
%doZ(g:Wd)(f:Str→W→%a→%p)(r:V→%c→Hp→VK→Prop):Prop:=∀(F:Hp) (m:Nat→Addr) (h:%a) (H:Hp) (x:Str) (y:W) (u:V) (Q:VK) (E:XK),&C→^Wg F m y u→^ug E%1t F m(f x y h)Q→r %0J [u] H Q
%duU(g:Wd)(f:Str→%a→%p)(r:V→%c→Hp→VK→Prop):Prop:=∀(F:Hp) (m:Nat→Addr) (h:%a) (H:Hp) (x:Str) (Q:VK) (E:XK),&C→^ug E%1t F m(f x h)Q→r %0J [] H Q
%trW{name:Str}{r:V→%c→Hp→VK→Prop}{f:Str→%a→%p}(slot:Slot "str" name id)(ty:&3k=&3v)(rule:MtR X id r)(ad:uU g f r)(ho:%4So)
 (hbase:%4Co name%0M=%0M:=by rfl) (hline:(apos.endLine==pos.line)=true:=by rfl):%R(^Yo name []pos)(fM0 f fa):=(t7 slot ty rule ho hbase hline).imp λσ H Q ⟨F,m,h,τ,R,N,P⟩=>⟨F,m,h,τ,R,N,AD P λx h1 F1 m1 H1 v l R1 rx P1=>by
 c rx<;>first|e #N|e⟨⟨_,rfl⟩,ad F1 m1 h1 H1 _ Q E R1 P1⟩⟩
%tkH{name:Str}{r:V→%c→Hp→VK→Prop}{f:Str→W→%a→%p}(slot:Slot "str" name id)(ty:&3k=&3v)(rule:MtR X id r)(ad:oZ g f r)(ho:%4So)(he:%Re fb)
 (hs:%5Me=[(false,#u)]:=by rfl) (hbase:%4Co name%0M=%0M:=by rfl) (hline:(apos.endLine==pos.line)=true:=by rfl):%R(^Yo name [e]pos)(fM1 f fa fb):=(t6 slot ty rule ho he hs hbase hline).imp λσ H Q ⟨F,m,h,τ,R,N,P⟩=>⟨F,m,h,τ,R,N,AD P λx h1 F1 m1 H1 v l R1 rx P1=>by
 c rx<;>first|e #N|e⟨⟨_,rfl⟩,F1,m1,h1,τ,R1,#d,AD P1 λy h2 F2 m2 H2 u l2 R2 ry P2=>ad F2 m2 h2 H2 _ y u Q E R2 ry P2⟩⟩
%dfL:Str→%a→%p:=λx h=>&K(Txt.isdigit x)
%tcA:uU g fL (λx xs H Q=>∃a,x=%0j∧xs=[]∧True∧^N(Txt.isdigit a)H):=λF m h H x Q E R P=>⟨x,rfl,rfl,trivial,%5L⟩
%dOy:Str→W→%a→%p:=λx y h=>match y with
 |.str z=>&K(Txt.startswith x z)
 |_=>.bad
%tTg:oZ g Oy (λx xs H Q=>∃a b,x=%0j∧xs=[.str b]∧^N(Txt.startswith a b)H):=λF m h H x y u Q E R ry P=>by
 c ry<;>first|e %j|e⟨_,_,rfl,rfl,%5L⟩
%dNy:Str→W→%a→%p:=λx y h=>match y with
 |.str z=>if(z.length==0)=false∧x.length+2≤sizeLine then %3j((Txt.split x z).map W.str) else .bad
 |_=>.bad
%tRWs.strs{F:Hp}{m:Nat→Addr}{n:Nat}:∀ys:%u,RWs g F m n (ys.map W.str) &0v
 |[]=>.nil
 |_::r=>.cons .str (RWs.strs r)
%tk9:oZ g Ny (λx xs H Q=>∃a b,x=%0j∧xs=[.str b]∧(b.length==0)=false∧a.length+2≤sizeLine∧U2 (Txt.split a b) H Q):=λF m h H x y u Q E R ry P=>by
 c ry<;>first|e %j|(
  u Ny at P;a4;f
  ·E;e⟨_,_,rfl,rfl,hz.1,hz.2,jF R (RWs.strs _) P⟩
  ·e %j)
%dstrsOf:%m→Option %u
 |[]=>some []
 |.str x::r=>(strsOf r).map (x::·)
 |_::_=>none
%tWI{F:Hp}{m:Nat→Addr}{n:Nat}:∀{xs:%m} {vs:%c} {ys:%u},^eg F m n→strsOf xs=some ys→vs=ys.map V.str
 |_,_,_,.nil,e=>by c e;rfl
 |_,_,_,.cons (x:=x) (xs:=xs) h r,e=>by
  c h<;>first|(c e;done)|(
   u strsOf at e;l4;rw[WI r q]
   rfl)
%dWX:Str→W→%a→%p:=λx y h=>match(AH y h).bind strsOf with
 |some ys=>if(ys.map (·.length)).sum+ys.length*x.length≤16777216 then %s(.str (Txt.join x ys)) else .bad
 |none=>.bad
%toO:oZ g WX (λx xs H Q=>∃a p,∃ys:%u,x=%0j∧xs=[.ref p]∧(SqL g.K H p &0v∨SqT g.K H p &0v)∧(ys.map (·.length)).sum+ys.length*a.length≤16777216∧Q (.str (Txt.join a ys)) H):=λF m h H x y u Q E R ry P=>by
 u WX at P;f
 ·rename_i ys e;o⟨xs,e1,e2⟩:=Option.bind_eq_some_iff.mp e;o⟨p,vs,rfl,q1,r1⟩:=Ds R ry e1;rw[WI r1 e2] at q1;f
  ·E;e⟨_,p,ys,rfl,rfl,.inl q1,hz,%5b.str⟩
  ·g
 ·g
end
section
variable{g:Wd}{E:XK}{X:Cx}{a b e o:Expr}{fa fb fc:FE}{fl:FA}{pos pos' tpos p p2 apos cpos:Pos}{es:List Expr}{x:Str}{id T:String}
%djC:%m→%a→Res W
 |[.str a],h=>match PySem.intText? a with
  |some n=>if a.length≤640 then %1Fn else .bad
  |none=>.bad
 |_,_=>.bad
%toP{g:Wd}:AdN g jC (λxs H Q=>∃a n,xs=[.str a]∧PySem.intText? a=%9Y∧a.length≤640∧%4on H):=λF m h H xs vs Q E R r P=>by
 u jC at P;f
 ·e3;m;f
  ·rename_i n en;f
   ·E;e⟨z,n,rfl,en,hz,%7J⟩
   ·g
  ·g
 ·g
%dYu:%m→%a→Res W
 |[.str a],h=>if a.length=1 then %1F(a.cps.getD 0 0:Nat) else .bad
 |_,_=>.bad
%tsC{g:Wd}:AdN g Yu (λxs H Q=>∃x,xs=[.str x]∧x.length=1∧%4o(x.cps.getD 0 0:Nat)H):=λF m h H xs vs Q E R r P=>by
 u Yu at P;f
 ·e3;m;f
  ·E;e⟨z,rfl,hz,%7J⟩
  ·g
 ·g
%dRo:%m→%a→Res W
 |[x],h=>match(AH x h).orElse λ_=>D4 x with
  |some ys=>%0T(h++[.lst ys])
  |none=>.bad
 |_,_=>.bad
%tgO{g:Wd}:AdN g Ro (λxs H Q=>∃p ys,xs=[.ref p]∧(SqL g.K H p ys∨SqT g.K H p ys)∧∀l,H l=none→Q %9V (^VH l ys)):=λF m h H xs vs Q E R r P=>by
 u Ro at P;f
 ·e3;f
  ·rename_i ys e
   cases q:AH z h with
   |some zs=>
    O;d;o⟨p,vs,rfl,q1,r1⟩:=Ds R rx q
    e⟨p,vs,rfl,.inl q1,rm R r1 P⟩
   |none=>
    O;o⟨p,vs,rfl,q1,r1⟩:=FP R rx (show D4 z=some ys from e);e⟨p,vs,rfl,.inr q1,rm R r1 P⟩
  ·g
 ·g
%djA:%m→%a→Res W
 |[.int i,%4f],h=>%1F(if j>i then j else i)
 |_,_=>.bad
%tsE{g:Wd}:AdN g jA (λxs H Q=>∃i j,xs=[.int i,%4f]∧%4o(if j>i then j else i)H):=λF m h H xs vs Q E R r P=>by
 u jA at P;f
 ·o⟨v,u,rfl,rx,ry⟩:=r.inv2;m;c ry;e⟨_,_,rfl,%7J⟩
 ·g
%dXs:%m→Option &1Y
 |[]=>some []
 |.bl x::r=>(Xs r).map (x::·)
 |_::_=>none
%taD{F:Hp}{m:Nat→Addr}{n:Nat}:∀{xs:%m} {vs:%c} {ys:&1Y},^eg F m n→Xs xs=some ys→vs=ys.map V.bl
 |_,_,_,.nil,e=>by c e;rfl
 |_,_,_,.cons (x:=x) (xs:=xs) h r,e=>by
  c h<;>first|(c e;done)|(
   u Xs at e;l4;rw[aD r q]
   rfl)
%dfP(any:Bool):%m→%a→Res W
 |[x],h=>match(AH x h).bind Xs with
  |some bs=>&K(if any then bs.any _root_.id else bs.all _root_.id)
  |none=>.bad
 |_,_=>.bad
%tsG:AdN g (fP false) (tW g.K):=λF m h H xs vs Q E R r P=>by
 u fP at P;f
 ·e3;f
  ·rename_i bs e;o⟨xs,e1,e2⟩:=Option.bind_eq_some_iff.mp e;o⟨p,vs,rfl,q1,r1⟩:=Ds R rx e1;rw[aD r1 e2] at q1;e⟨p,bs,rfl,q1,%5L⟩
  ·g
 ·g
%dfLM(f:Nat→%m→%a→%p)(a:FE)(r:FA):FE:=λσ h=>(a σ h).bind λx h1=>match x with
 |.ref i=>match h1[i]? with
  |some (.lst _)=>(r σ h1).bind λxs h2=>f i xs h2
  |_=>.bad
 |_=>.bad
%dAdL(g:Wd)(f:Nat→%m→%a→%p)(r:V→%c→Hp→VK→Prop):Prop:=∀(F:Hp) (m:Nat→Addr) (h:%a) (H:Hp) (i:Nat) (v:V) (xs:%m) (vs:%c) (Q:VK) (E:XK),&C→^Wg F m(.ref i)v→%7ug F m→^ug E%1t F m(f i xs h)Q→r v vs H Q
%tKG(hK:g.K=X.K){name:Str}{r:V→%c→Hp→VK→Prop}{f:Nat→%m→%a→%p}(slot:Slot "list" name id)(hty:&3k=&3v)(hm:MtR X id r)(ad:AdL g f r)(ho:%4So)(ha:DA g E X (e::es) fl)
 (hbase:%4Co name%0M=%0M:=by rfl)
 (hfew:((%6D(e::es)).all (λx=>!x.1)&&(%7Hcpos []).all (λx=>x.1.isSome)
   &&decide ((e::es).length+([]:&0G).length+(if([]:&0G).isEmpty then 0 else 1)<30))=true:=by rfl)
 (hline:(apos.endLine==cpos.line)=true:=by rfl) (hs:%3d=(false,#u)::%1m:=by rfl) (hplain:(%6Des).any (·.1)=false:=by rfl):
 %R(^Yo name(e::es)cpos)(fLM f fa fl):=(jr PySem.F.plainAttrs_list slot hty hm ho ha hbase hfew hline hs hplain).imp λσ H Q ⟨F,m,h,τ,R,N,P⟩=>⟨F,m,h,τ,R,N,AD P λx h1 F1 m1 H1 v l R1 rx P1=>by
 cases x with
 |ref i=>
  o⟨ob,u,ev,hi,e0,e1,e2⟩:=PU R1 rx;subst ev;s[e0] at P1
  cases e2 with
  |lst r2=>
   r⟨.inl ⟨rfl,_,by rw[←hK];e SqL.of e1⟩,F1,m1,h1,τ,R1,#d,AD P1 λxs h2 F2 m2 H2 vs l2 R2 rxs P2=>?_⟩
   e ad F2 m2 h2 H2 i _ xs vs Q E R2 %6a rxs P2
  |_=>e #N
 |_=>e #N⟩
%dBq(i:Nat)(xs:%m)(h:%a):%p:=match xs,h[i]? with
 |[y],%Vys=>if ys.length<sizeLine then #t(h.set i (.lst (ys++[y]))) else .bad
 |_,_=>.bad
%tE7:AdL g Bq cT:=λF m h H i v xs vs Q E R ri rs P=>by
 u Bq at P;f
 ·rename_i y ys e;o⟨ob,u,rfl,hi,e0,e1,e2⟩:=PU R ri;rw[e] at e0;c e0;o⟨w,rfl,ry⟩:=rs.inv1
  cases e2 with
  |lst r2=>
   f
   ·E;r⟨_,_,_,rfl,rfl,e1,by rw[←r2.length];e hz,P F m _ .non &6L (R.bg hi (by rw[e];simp) (.lst (r2.append (.one ry)))) .non⟩
   ·g
 ·g
%dB9(i:Nat)(xs:%m)(h:%a):%p:=match xs,h[i]? with
 |[y],%Vys=>match Em y h with
  |some zs=>if ys.length+zs.length≤sizeLine then #t(h.set i (.lst (ys++zs))) else .bad
  |none=>.bad
 |_,_=>.bad
%tEF:AdL g B9 cS:=λF m h H i v xs vs Q E R ri rs P=>by
 u B9 at P;f
 ·rename_i y ys e;o⟨ob,u,rfl,hi,e0,e1,e2⟩:=PU R ri;rw[e] at e0;c e0;o⟨w,rfl,ry⟩:=rs.inv1;f
  ·rename_i zs ez;o⟨p,us,rfl,q1,r1⟩:=OE R ry ez
   cases e2 with
   |lst r2=>
    f
    ·E;r⟨_,p,_,us,rfl,rfl,e1,q1,by rw[←r2.length,←r1.length];e hz,P F m _ .non &6L (R.bg hi (by rw[e];simp) (.lst (r2.append r1))) .non⟩
    ·g
  ·g
 ·g
%dkeyOf:W→Option Key
 |.int i=>some (.inl i)
 |.str x=>some (.inr x)
 |_=>none
%dFb(kvs:&u)(k:Key):&F:=(kvs.find? λkv=>decide (kv.1=k)).map (·.2)
%dTw(kvs:&u)(k:Key)(v:W):&u:=if kvs.any (λkv=>decide (kv.1=k)) then kvs.map (λkv=>if kv.1=k then(kv.1,v) else kv) else kvs++[(k,v)]
%tJv{F:Hp}{m:Nat→Addr}{n:Nat}{y:W}{u:V}{k:Key}(r:RW g F m n y u)(e:&2r=%6t):u=%1b:=by c r<;>first|(c e;rfl)|c e
%tRK.val{F:Hp}{m:Nat→Addr}{n:Nat}(k:Key):∀{xs:&u} {vs:#E},RK g F m n xs vs→(∀x,Fb xs k=%v→∃v,LS vs k=%W∧RW g F m n x v)∧(Fb xs k=none→LS vs k=none)
 |_,_,.nil=>⟨λx e=>(by c e),λ_=>rfl⟩
 |_,_,.cons (k:=k') (x:=x) (v:=v) (xs:=xs) (vs:=vs) h r=>by
  h ih:=RK.val k r;u Fb LS at ih ⊢;by_cases q:k'=k
  ·rw[List.find?_cons,List.find?_cons];s[q,decide_true];e⟨λy e=>by c e;e⟨_,rfl,h⟩,λe=>by c e⟩
  ·rw[List.find?_cons,List.find?_cons];s[q,decide_false];e ih
%dHo:W→%a→Option &u
 |.ref i,h=>match h[i]? with
  |some %3W=>some kvs
  |_=>none
 |_,_=>none
%tQi{F:Hp}{m:Nat→Addr}{h:%a}{H:Hp}{x:W}{v:V}{kvs:&u}(R:&C)(r:^Wg F m x v)(e:Ho x h=some kvs):∃i vs,x=.ref i∧(i<h.length∧h[i]? =#gkvs)∧v=.ref (m i)∧H (m i)=some %6d∧RK g F m h.length kvs vs:=by
 cases x with
 |ref i=>
  o⟨ob,u,rfl,hi,e0,e1,e2⟩:=PU R r;u Ho at e;s[e0] at e
  cases e2 with
  |dct r2=>c e;e⟨i,_,rfl,⟨hi,e0⟩,rfl,e1,r2⟩
  |_=>c e
 |_=>c e
%dBf:W→W→%a→%p:=λx y h=>match Ho x h,&2r with
 |some kvs,%6t=>match Fb kvs k with
  |some v=>%8D
  |none=>.bad
 |_,_=>.bad
%tdZ:Ad2 g Bf (λx y H Q=>∃a v,x=%N∧M1 H a y %W∧Q v H):=λF m h H x y v u Q E R rx ry P=>by
 u Bf at P;f
 ·k4;rw[Jv ry e2];f
  ·rename_i w ew;o⟨z,h1,h2⟩:=(r1.val k).1 w ew;e⟨m i,z,rfl,by rw[←h1];e M1.k q1,%5bh2⟩
  ·g
 ·g
%tEo(hu:X.A.units+1<cLine)(ha:#Z)(hb:%3A)(hs:lB b:=by intro _ _;rfl):%R(%9ra b)(Am Bf fa fb):=(mZ hu ha hb hs).imp λσ H Q h=>Y4 dZ h
%dIp(neg:Bool):W→W→%a→%p:=λy x h=>match Ho x h,&2r with
 |some kvs,%6t=>&K(if neg then !(Fb kvs k).isSome else(Fb kvs k).isSome)
 |_,_=>.bad
%tQd{F:Hp}{m:Nat→Addr}{n:Nat}{k:Key}{xs:&u}{vs:#E}(r:RK g F m n xs vs):(LS vs k).isSome=(Fb xs k).isSome:=by
 cases e:Fb xs k with
 |none=>rw[(r.val k).2 e];rfl
 |some x=>o⟨v,h1,_⟩:=(r.val k).1 x e;rw[h1];rfl
%tll:Ad2 g %7j (λy x H Q=>∃a o,x=%N∧M1 H a y o∧^No.isSome H):=λF m h H y x u v Q E R ry rx P=>by
 u Ip at P;f
 ·k4;y2
 ·g
%tgP:Ad2 g (Ip true) (λy x H Q=>∃a o,x=%N∧M1 H a y o∧^N(!o.isSome)H):=λF m h H y x u v Q E R ry rx P=>by
 u Ip at P;f
 ·k4;y2
 ·g
%tuJ(hu:X.A.units+1<cLine)(ha:#Z)(hb:%3A)(hm:&2E.In=false:=by with_unfolding_all rfl):%R(%7ta [.In] [b])(Am %7j fa fb):=(qT (js hu ha hb) hm).imp λσ H Q h=>Y4 ll h
%tQh(hu:X.A.units+1<cLine)(ha:#Z)(hb:%3A)(hm:&2E.In=false:=by with_unfolding_all rfl):DT g E X (%7ta [.In] [b]) (^p%7j fa fb):=(Yc (js hu ha hb) hm).imp λσ H Q h=>Y4 ll (wB h)
%tXh(hu:X.A.units+1<cLine)(ha:#Z)(hb:%3A)(hm:&2E.NotIn=false:=by with_unfolding_all rfl):DT g E X (%7ta [.NotIn] [b]) (^p(Ip true)fa fb):=(Yc (fF hu ha hb) hm).imp λσ H Q h=>Y4 gP (wB h)
%dOO(x y v:W)(h:%a):Res Unit:=match x,Ho x h,&2r with
 |.ref i,some kvs,%6t=>if kvs.length<sizeLine then %9Ii(.dct (Tw kvs k v)) else .bad
 |_,_,_=>.bad
%tRK.map_put{F:Hp}{m:Nat→Addr}{n:Nat}{k:Key}{x:W}{v:V}(h:RW g F m n x v):∀{xs:&u} {vs:#E},RK g F m n xs vs→RK g F m n (xs.map λkv=>if kv.1=k then(kv.1,x) else kv) (vs.map λkv=>if kv.1=k then(kv.1,v) else kv)
 |_,_,.nil=>.nil
 |_,_,.cons (k:=k') q r=>by
  n0;by_cases e:k'=k
  ·s[e,if_true];e &0O(RK.map_put h r)
  ·s[e,if_false];e .cons q (RK.map_put h r)
%tRK.append{F:Hp}{m:Nat→Addr}{n:Nat}{κ:Type}:∀{xs ys:%8f} {us vs:#P},RK g F m n xs us→RK g F m n ys vs→RK g F m n (xs++ys) (us++vs)
 |_,_,_,_,.nil,s=>s
 |_,_,_,_,%7B,s=>&0O(RK.append r s)
%tRK.any{F:Hp}{m:Nat→Addr}{n:Nat}(k:Key):∀{xs:&u} {vs:#E},RK g F m n xs vs→(xs.any λkv=>decide (kv.1=k))=vs.any λkv=>decide (kv.1=k)
 |_,_,.nil=>rfl
 |_,_,.cons (k:=k') q r=>by rw[List.any_cons,List.any_cons,RK.any k r]
%tRK.putK{F:Hp}{m:Nat→Addr}{n:Nat}{k:Key}{x:W}{v:V}{xs:&u}{vs:#E}(r:RK g F m n xs vs)(h:RW g F m n x v):RK g F m n (Tw xs k x) (L2.putK vs k v):=by
 u Tw L2.putK;rw[r.any k];B
 ·e RK.map_put h r
 ·e r.append (%4Ph)
%tcN{F:Hp}{m:Nat→Addr}{h:%a}{H:Hp}{x y z:W}{v u w:V}{k:%a→SR}{D:Ends}{RS:Hp→(Nat→Addr)→Nat→Sa→St→Prop}(R:&C)(rx:^Wg F m x v)(ry:^Wg F m y u)(rz:^Wg F m z w)
 (P:FW g E RS F m h.length ((OO x y z h).st λ_ h1=>k h1) D):∃b h1 H4,v=%9X∧Ww H b u w H4∧h1.length=h.length∧#KF m h1 H4∧FW g E RS F m h.length (k h1) D:=by
 u OO at P;f
 ·rename_i i kvs kk e2 e1;o⟨j,vs,ej,hi,rfl,q1,r1⟩:=Qi R rx e1;c ej;rw[Jv ry e2];f
  ·E;e⟨_,_,_,rfl,Ww.k q1 (by rw[←r1.length];e hz),by simp,R.bg hi.1 (by rw[hi.2];simp) (.dct (r1.putK rz)),P⟩
  ·g
 ·g
%dGJ(a b v:FE):FS:=λσ h=>(v σ h).st λz h1=>(a σ h1).st λx h2=>(b σ h2).st λy h3=>(OO x y z h3).st λ_ h4=>%1Vh4
%tGi(hu:X.A.units+1<cLine)(ha:#Z)(hb:%3A)(hv:%Re fc)(hs:%7Ue(some (.Subscript a b pos'))X.env=%7c:=by rfl):DS g E X (&1g[.Subscript a b pos']e) (GJ fa fb fc):=(mI hu ha hb hv hs).imp λD σ H ⟨F,m,h,τ,R,N,P⟩=>
 ⟨F,m,h,τ,R,N,CL P λz h1 F1 m1 H1 w l R1 rz P1=>⟨F1,m1,h1,τ,R1,#d,CL P1 λx h2 F2 m2 H2 v l2 R2 rx P2=>⟨F2,m2,h2,τ,R2,#d.mono l2,CL P2 λy h3 F3 m3 H3 u l3 R3 ry P3=>by
   o⟨b,h4,H4,e1,e2,e3,e4,e5⟩:=cN R3 (rx.mono l3) ry ((rz.mono l2).mono l3) P3
   e⟨b,H4,e1,e2,e5 F3 m3 H4 σ (&6He3.symm) e4 (by rw[e3];e(#d.mono l2).mono l3)⟩⟩⟩⟩
%dX0(f:W→W→%a→%p)(a b v:FE):FS:=λσ h=>(a σ h).st λx h1=>(b σ h1).st λy h2=>(Bf x y h2).st λz h3=>(v σ h3).st λu h4=>(f z u h4).st λw h5=>(OO x y w h5).st λ_ h6=>%1Vh6
%tn8{op:Operator}{rd:V→V→Hp→VK→Prop}{f:W→W→%a→%p}(hu:X.A.units+1<cLine)(hop:lC X op rd)(ad:Ad2 g f rd)(ha:#Z)(hb:%3A)(hv:%Re fc)
 (hg:∀ov iv new,augStore b ov iv new=(do holding [new,ov,iv] (setItem ov iv new);release [new,ov,iv] [];pure .next):=by intro _ _ _;rfl):DS g E X (.AugAssign (.Subscript a b tpos) op e pos) (X0 f fa fb fc):=(mJ hu ha hb hv hop hg).imp λD σ H ⟨F,m,h,τ,R,N,P⟩=>
 ⟨F,m,h,τ,R,N,CL P λx h1 F1 m1 H1 v l R1 rx P1=>⟨F1,m1,h1,τ,R1,#d,CL P1 λy h2 F2 m2 H2 u l2 R2 ry P2=>by
   h P2':post g E %1t F2 m2 h2.length (Bf x y h2) λw H3=>∀a,v=%N→wE g E fc σ H3 λy2 H4=>rd w y2 H4 λz H5=>∃H6,Ww H5 a u z H6∧%5JH6:=
    CL P2 λz h3 F3 m3 H3 w l3 R3 rz P3 a ea=>⟨F3,m3,h3,τ,R3,(#d.mono l2).mono l3,CL P3 λt h4 F4 m4 H4 y2 l4 R4 rt P4=>ad F4 m4 h4 H4 z t w y2 _ E R4 (rz.mono l4) rt (CL P4 λw2 h5 F5 m5 H5 zz l5 R5 rw5 P5=>by
     o⟨b,h6,H6,e1,e2,e3,e4,e5⟩:=cN R5 (((%6a.mono l3).mono l4).mono l5) (((ry.mono l3).mono l4).mono l5) rw5 P5;rw[ea] at e1;c e1
     e⟨H6,e2,e5 F5 m5 H6 σ (&6He3.symm) e4 (by rw[e3];e(((#d.mono l2).mono l3).mono l4).mono l5)⟩)⟩
   o⟨a,w,e1,e2,q⟩:=dZ F2 m2 h2 H2 x y v u _ E R2 %6a ry P2'
   e⟨a,w,e1,e2,q a e1⟩⟩⟩
%dZE:%a→%p:=λh=>%0T(h++[.dct []])
%dGb:FE:=λ_ h=>ZE h
%tHc:%R(.Dict [] [] pos)Gb:=jo.imp λσ H Q ⟨F,m,h,τ,R,N,P⟩ p hp=>by
 h hl:(h++[O.dct []]).length=h.length+1:=by simp
 h:=P F (ext m h.length p) (%Yp%8v) (.ref (ext m h.length p h.length)) (by rw[hl];e .new) (R.fQ hp (.dct .nil)) (.ref (by rw[hl];e %0s))
 rwa[Fv] at this
%dN8:%9n→Sa→%a→Res &4X
 |[],_,h=>%s[]
 |(k,v)::r,σ,h=>(k σ h).bind λx h1=>(v σ h1).bind λy h2=>(N8 r σ h2).bind λps h3=>.ok ((x,y)::ps) h3
inductive RPs(g:Wd)(F:Hp)(m:Nat→Addr)(n:Nat):&4X→&3q→Prop
 |nil:RPs g F m n [] []
 |cons {x y:W} {v u:V} {xs:&4X} {vs:&3q} (h:RW g F m n x v) (q:RW g F m n y u) (r:RPs g F m n xs vs):RPs g F m n ((x,y)::xs) ((v,u)::vs)
%til:∀{trs:%9n} {σ:St} {H:Hp} {Q:&3q→Hp→Prop},(∃F m h τ,&C∧%5Gg F m τ σ∧^ug E(RPs g)F m(N8 trs τ h)Q)→XW (trs.map λp=>(wE g E p.1,wE g E p.2)) σ H Q
 |[],σ,H,Q,⟨F,m,h,τ,R,N,P⟩=>%6I[] .nil
 |(k,v)::r,σ,H,Q,⟨F,m,h,τ,R,N,P⟩=>⟨F,m,h,τ,R,N,AD P λx h1 F1 m1 H1 v l R1 rx P1=>⟨F1,m1,h1,τ,R1,#d,AD P1 λy h2 F2 m2 H2 u l2 R2 ry P2=>by
    r il ⟨F2,m2,h2,τ,R2,#d.mono l2,?_⟩
    e AD P2 λps h3 F3 m3 H3 vs l3 R3 rps P3=>P3 F3 m3 H3 _ .refl R3 (.cons (%6a.mono l3) (ry.mono l3) rps)⟩⟩
%dkeysOf:&4X→Option &u
 |[]=>some []
 |(k,v)::r=>match keyOf k,keysOf r with
  |some k,some r=>some ((k,v)::r)
  |_,_=>none
%tW5{F:Hp}{m:Nat→Addr}{n:Nat}:∀{ps:&4X} {vs:&3q} {kvs:&u},RPs g F m n ps vs→keysOf ps=some kvs→∃us,vs=us.map (λkv=>(kV kv.1,kv.2))∧RK g F m n kvs us
 |_,_,_,.nil,e=>by c e;e⟨[],rfl,.nil⟩
 |_,_,_,.cons h q r,e=>by
  u keysOf at e;z
  ·rename_i k r' e1 e2;d;o⟨us,rfl,rk⟩:=W5 r e2;e⟨_,by rw[List.map_cons,Jv h e1],.cons q rk⟩
  ·d
%dYy(kvs more:&u):&u:=more.foldl (λacc kv=>Tw acc kv.1 kv.2) kvs
%tRK.merge{F:Hp}{m:Nat→Addr}{n:Nat}:∀{more:&u} {ms:#E} {kvs:&u} {vs:#E},RK g F m n more ms→RK g F m n kvs vs→RK g F m n (Yy kvs more) (Kv vs ms)
 |_,_,_,_,.nil,q=>q
 |_,_,kvs,vs,.cons (k:=k) (x:=x) (v:=v) (xs:=xs) (vs:=us) h r,q=>by
  show RK g F m n (Yy (Tw kvs k x) xs) (Kv (L2.putK vs k v) us);e RK.merge (more:=xs) (ms:=us) r (q.putK h)
%dHn(trs:%9n):FE:=λσ h=>(N8 trs σ (h++[.dct []])).bind λps h2=>match h2[h.length]?,keysOf ps with
 |some %l,some kvs=>if kvs.length≤15 then %0T(h2.set h.length (.dct (Yy [] kvs))) else .bad
 |_,_=>.bad
%tcj{keys:&3D}{values:%0i}{trs:%9n}(h:PPs X pos keys values (trs.map λp=>(wE g E p.1,wE g E p.2)))(hall:keys.all (·.isSome)=true:=by rfl)(hl:keys.length=values.length:=by rfl)(h0:keys≠[]:=by simp)(h15:keys.length≤15:=by decide):
 %R(.Dict keys values pos)(Hn trs):=(mY h hall hl h0 h15).imp λσ H Q ⟨F,m,h,τ,R,N,P⟩ p hp=>by
 h hl:(h++[O.dct []]).length=h.length+1:=by simp
 h R1:=R.fQ (o:=%l) (u:=%8v) hp (.dct .nil);r il ⟨F,ext m h.length p,h++[.dct []],τ,R1,by rw[hl];e N.mono .new,?_⟩;h P1:=WR (Le.new (F:=F) (m:=m) (n:=h.length) (p:=p)) P;rw[←hl] at P1;r AD P1 λps h2 F2 m2 H2 vs l R2 rps P2=>?_;h hm:m2 h.length=p:=(l.ad h.length (by rw[hl];e %0s)).trans Fv;h hi:h.length<h2.length:=Nat.lt_of_lt_of_le (by rw[hl];e %0s) l.le;q
 ·rename_i kvs e1 e2;o⟨u,q1,q2⟩:=R2.obj _ _ e1;o⟨us,rfl,rk⟩:=W5 rps e2;rw[hm] at q1
  cases q2 with
  |dct r0=>
   c r0;q
   ·E;r⟨q1,us,rfl,by rw[←rk.length];e hz,?_⟩;h:=P2 F2 m2 (upd H2 p (.dK (Kv [] us))) (.ref (m2 h.length)) &6L (by rw[←hm];e R2.bg hi (by rw[e1];simp) (.dct (rk.merge .nil))) (.ref (by simpa using hi))
    rwa[hm] at this
   ·e ^F
 ·e ^F
%tcb{pos:Pos}:PPs X pos [] [] (([]:%9n).map λp=>(wE g E p.1,wE g E p.2)):=mL
%tEu{pos:Pos}{k v:Expr}{ks:&3D}{vs:%0i}{trs:%9n}(hk:%4Sk)(hv:%Rv fb)(hr:PPs X pos ks vs (trs.map λp=>(wE g E p.1,wE g E p.2))):PPs X pos (some k::ks) (v::vs) (((fa,fb)::trs).map λp=>(wE g E p.1,wE g E p.2)):=jf hk hv hr
end
abbrev IT:=Nat×(Nat→%a→%9e)
abbrev FI:=Sa→%a→Res IT
%dAIt(g:Wd)(F0:Hp)(m0:Nat→Addr)(n0:Nat)(it:IT)(J:It):Prop:=∀F m h H i,Le F0 m0 n0 F m h.length→&C→match it.2 i h with
 |some %v=>J.go i H∧∀x' H',J.yld i H x' H'→∃F',Le F m h.length F' m h.length∧#KF' m h H'∧^Wg F' m x x'
 |some none=>J.stop i H
 |none=>True
%tAIt.mono{g:Wd}{F0 F1:Hp}{m0 m1:Nat→Addr}{n0 n1:Nat}{it:IT}{J:It}(a:AIt g F0 m0 n0 it J)(l:Le F0 m0 n0 F1 m1 n1):AIt g F1 m1 n1 it J:=λF m h H i l2 R=>a F m h H i &5h R
%dwI(g:Wd)(E:XK)(f:FI):TI:=λτ H R=>∃F m h σ,&C∧%5Gg F m σ τ∧^ug E(AIt g)F m(f σ h)R
abbrev DI(g:Wd)(E:XK)(X:Cx)(tg iter:Expr)(f:FI):Prop:=PI X tg iter (wI g E f)
%tPI.imp{X:Cx}{tg iter:Expr}{t t':TI}(h:PI X tg iter t)(k:∀σ H R,t' σ H R→t σ H R):PI X tg iter t':=λpins s σ H R I q=>h pins s σ H R I (k σ H R q)
abbrev TGA:=W→Sa→Option Sa
%dAG(g:Wd)(t:TGA)(gT:TG):Prop:=∀F m h H x v τ σ τ2 (Q:St→Hp→Prop),&C→%5Gg F m τ σ→^Wg F m x v→t x τ=some τ2→(∀σ2,%5Gg F m τ2 σ2→Q σ2 H)→gT v σ H Q
%dtgN(i:Nat):TGA:=λx τ=>some (&1W%v)
%tHR{g:Wd}{i:Nat}:AG g (tgN i) (Xf i):=λF m h H x v τ σ τ2 Q R N rx e q=>by
 d;e q _ (N.set i rx)
%dtg2(i j:Nat):TGA:=λx τ=>match D4 x with
 |some [a,b]=>some ((&1W&1i).set j (some b))
 |_=>none
%tdX{g:Wd}{i j:Nat}:AG g (tg2 i j) (uz g.K 2 (j6 (Xf i) (j6 (Xf j) uA))):=λF m h H x v τ σ τ2 Q R N rx e q=>by
 u tg2 at e;z
 ·rename_i a b ei;d;o⟨p,vs,rfl,q1,r1⟩:=FP R rx ei;o⟨v1,v2,rfl,r2,r3⟩:=r1.inv2;e⟨p,_,rfl,q1,rfl,v1,_,rfl,v2,_,rfl,rfl,q _ ((N.set i r2).set j r3)⟩
 ·d
%dDi(it:Nat→%a→%9e)(t:TGA)(b:FS):Nat→Nat→FS
 |0,i=>λσ h=>match it i h with
  |some none=>%1Vh
  |_=>.bad
 |k+1,i=>λσ h=>match it i h with
  |some %v=>match t x σ with
   |some σ2=>(b σ2 h).bind (Di it t b k (i+1))
   |none=>.bad
  |_=>.bad
%dEt(f:FI)(t:TGA)(b:FS):FS:=λσ h=>(f σ h).st λit h1=>Di it.2 t b it.1 0 σ h1
section
variable{g:Wd}{E:XK}{X:Cx}{tg iter:Expr}{body:List Stmt}{fi:FI}{t:TGA}{gT:TG}{fb:FS}{pos:Pos}
%tKD(hp:PassesOwn %6i X.A X.env X.xe)(hc:X.calm=true)(hi:DI g E X tg iter fi)(hg:PG X tg gT)(ag:AG g t gT)(hb:DSs g E X body fb)(hs:∀x,&1witer x=%1M:=by intro _;rfl):
 DS g E X (.For tg iter body [] pos) (Et fi t fb):=(bB hp hc hi hg hb hs).imp λD σ H ⟨F,m,h,τ,R,N,P⟩=>by
 r⟨F,m,h,τ,R,N,CL P λit h1 F1 m1 H1 J l R1 hJ P1=>?_⟩;r⟨λi k σ H=>∃F m h τ,Le F1 m1 h1.length F m h.length∧&C∧%5Gg F m τ σ∧FW g E %4Y F m h.length (Di it.2 t fb k i τ h) D,⟨it.1,F1,m1,h1,τ,.refl,R1,#d,P1⟩,?_⟩;u0
 cases k with
 |zero=>
  u Di at P2;q
  ·a7;rw[e] at a;e .inl ⟨a,P2 F2 m2 H σ .refl R2 N2⟩
  ·e ^F
 |succ k=>
  u Di at P2;q
  ·rename_i x e;rw[e] at a;q
   ·v0;o9;h P3:=Gq l3 P2
    cases eb:fb τ3 h2 with
    |nx σ4 h4=>
     rw[eb] at P3
     e λF4 m4 H4 τ4 l4 R4 N4=>⟨F4,m4,h4,σ4,(l2.trans l3).trans l4,R4,N4,Gq l4 P3⟩
    |rt v h4=>rw[eb] at P3;e P3
    |exc c fs=>rw[eb] at P3;e P3
    |bad=>rw[eb] at P3;e P3
   ·e ^F
  ·e ^F
end
section
variable{g:Wd}{E:XK}{X:Cx}{tg e e1 e2:Expr}{fa:FE}{fl:FA}{p pos:Pos}
%diL(a:FE):FI:=λσ h=>(a σ h).bind λx h1=>match AH x h1 with
 |some xs=>^n(xs.length,λi h=>(AH x h).map λys=>ys[i]?)
 |none=>.bad
%tMq(hK:g.K=X.K)(he:%4Se):DI g E X tg e (iL fa):=PI.imp (mQ he) λσ H R ⟨F,m,h,τ,Rp,N,P⟩=>⟨F,m,h,τ,Rp,N,AD P λx h1 F1 m1 H1 v l R1 rx P1=>by
 cases ex:AH x h1 with
 |none=>s[ex] at P1;e #N
 |some xs=>
  s[ex] at P1;o⟨a,vs,rfl,q1,r1⟩:=Ds R1 rx ex;rw[←hK];r⟨a,rfl,⟨vs,q1⟩,P1 F1 m1 H1 (Itl g.K a) .refl R1 λF2 m2 h2 H2 i l2 R2=>?_⟩;h rx2:=%6a
  cases e2:AH x h2 with
  |none=>s[e2,Option.map_none]
  |some ys=>
   x8;c ea
   cases ei:ys[i]? with
   |some y=>
    n8
    e⟨⟨us,u,q2,h1'⟩,λx' H' ⟨eH,y'⟩=>by
     subst eH;h:=y' us q2;rw[h1'] at this;c this
     e⟨F2,.refl,R2,h2'⟩⟩
   |none=>e⟨us,q2,by rw[←r2.length];e List.getElem?_eq_none_iff.mp ei⟩⟩
%diT(a:FE):FI:=λσ h=>(a σ h).bind λx h1=>match D4 x with
 |some xs=>^n(xs.length,λi _=>some xs[i]?)
 |none=>.bad
%tcg(hK:g.K=X.K)(he:%4Se):DI g E X tg e (iT fa):=PI.imp (qL he) λσ H R ⟨F,m,h,τ,Rp,N,P⟩=>⟨F,m,h,τ,Rp,N,AD P λx h1 F1 m1 H1 v l R1 rx P1=>by
 cases ex:D4 x with
 |none=>s[ex] at P1;e #N
 |some xs=>
  s[ex] at P1;o⟨a,vs,rfl,q1,r1⟩:=FP R1 rx ex;rw[←hK];r⟨a,rfl,⟨vs,q1⟩,P1 F1 m1 H1 (Itt g.K a) .refl R1 λF2 m2 h2 H2 i l2 R2=>?_⟩;o⟨a',us,ea,q2,r2⟩:=FP R2 %6a ex;c ea;a8
  cases ei:xs[i]? with
  |some y=>
   n8
   e⟨⟨us,u,q2,h1'⟩,λx' H' ⟨eH,y'⟩=>by
    subst eH;h:=y' us q2;rw[h1'] at this;c this
    e⟨F2,.refl,R2,h2'⟩⟩
  |none=>e⟨us,q2,by rw[←r2.length];e List.getElem?_eq_none_iff.mp ei⟩⟩
%dsmall(i:Int):Bool:=decide (-(2^62)≤i)&&decide (i<2^62)
%diR1(a:FA):FI:=λσ h=>(a σ h).bind λxs h1=>match xs with
 |[.int j]=>if small j=true then ^n(j.toNat,λi _=>some (if i<j.toNat then %0f(0+(i:Int)) else none)) else .bad
 |_=>.bad
%diR2(a:FA):FI:=λσ h=>(a σ h).bind λxs h1=>match xs with
 |[.int k,%4f]=>if(small k&&small j)=true then ^n((j-k).toNat,λi _=>some (if i<(j-k).toNat then %0f(k+(i:Int)) else none)) else .bad
 |_=>.bad
%tXB{F0:Hp}{m0:Nat→Addr}{n0:Nat}{lo:Int}{n:Nat}:AIt g F0 m0 n0 (n,λi _=>some (if i<n then %0f(lo+(i:Int)) else none)) (Itr lo n):=λF m h H i l R=>by
 a8;by_cases hi:i<n
 ·rw[if_pos hi];e⟨hi,λx' H' ⟨eH,ex⟩=>by subst eH;subst ex;e⟨F,.refl,R,.int⟩⟩
 ·rw[if_neg hi];e Nat.le_of_not_lt hi
%tUR{i:Int}(h:small i=true):-(2^62)≤i∧i<2^62:=by
 u small at h;rw[Bool.and_eq_true,decide_eq_true_eq,decide_eq_true_eq] at h;e h
%tgz(hg:Gl X "range")(hm:&6J=none)(ha:DA g E X [e] fl)(hs:%5Me=[(false,#u)]:=by rfl):DI g E X tg (%6H"range"p [e]) (iR1 fl):=PI.imp (fA hg hm ha hs) λσ H R ⟨F,m,h,τ,Rp,N,P⟩=>⟨F,m,h,τ,Rp,N,AD P λxs h1 F1 m1 H1 vs l R1 rx P1=>by
 S
 ·rename_i j;o⟨v,rfl,r⟩:=rx.inv1;c r;S
  ·E;o⟨z1,z2⟩:=UR hz;e⟨j,rfl,z1,z2,P1 F1 m1 H1 _ .refl R1 XB⟩
  ·e #N
 ·e #N⟩
%tgy(hg:Gl X "range")(hm:&6J=none)(ha:DA g E X [e1,e2] fl)(hs:%4u[e1,e2]=[(false,#Be1),(false,#Be2)]:=by rfl)(hs2:%5Me2=[(false,#Be2)]:=by rfl):DI g E X tg (%6H"range"p [e1,e2]) (iR2 fl):=PI.imp (fz hg hm ha hs hs2) λσ H R ⟨F,m,h,τ,Rp,N,P⟩=>⟨F,m,h,τ,Rp,N,AD P λxs h1 F1 m1 H1 vs l R1 rx P1=>by
 S
 ·rename_i k j;o⟨v,u,rfl,r,r'⟩:=rx.inv2;c r;c r';S
  ·n6;o⟨z1,z2⟩:=UR hz.1;o⟨z3,z4⟩:=UR hz.2;e⟨k,j,rfl,⟨z1,z2,z3,z4⟩,P1 F1 m1 H1 _ .refl R1 XB⟩
  ·e #N
 ·e #N⟩
%diS(a:FE):FI:=λσ h=>(a σ h).bind λx h1=>match x with
 |.str z=>^n(z.cps.size,λi _=>some (z.cps[i]?.map λc=>%9k))
 |_=>.bad
%tky(he:%4Se):DI g E X tg e (iS fa):=PI.imp (qM he) λσ H R ⟨F,m,h,τ,Rp,N,P⟩=>⟨F,m,h,τ,Rp,N,AD P λx h1 F1 m1 H1 v l R1 rx P1=>by
 c rx<;>first|e #N|(
  rename_i z;r⟨z,rfl,P1 F1 m1 H1 (Its z) .refl R1 λF2 m2 h2 H2 i l2 R2=>?_⟩;a8
  cases ei:z.cps[i]? with
  |some c=>e⟨(Array.getElem?_eq_some_iff.mp ei).1,λx' H' ⟨eH,c',ec,ex⟩=>by
    subst eH;rw[ei] at ec;c ec;P
    e⟨F2,.refl,R2,.str⟩⟩
  |none=>e Array.getElem?_eq_none_iff.mp ei)⟩
%diE(a:FA):FI:=λσ h=>(a σ h).bind λxs h1=>match xs with
 |[x]=>match AH x h1 with
  |some ys=>^n(ys.length,λi h=>(AH x h).map λys=>ys[i]?.map λy=>%0a&1H y)
  |none=>.bad
 |_=>.bad
%tog{elts:%0i}{kk:Nat}{tpos:Pos}(hK:g.K=X.K)(hg:Gl X "enumerate")(hm:X.mg "enumerate"=none)(ha:DA g E X [e] fl)(hs:%5Me=[(false,#u)]:=by rfl):DI g E X (.Tuple elts kk tpos) (%6H"enumerate"p [e]) (iE fl):=PI.imp (mS hg hm ha hs) λσ H R ⟨F,m,h,τ,Rp,N,P⟩=>⟨F,m,h,τ,Rp,N,AD P λxs h1 F1 m1 H1 vs l R1 rxs P1=>by
 S
 ·rename_i x;o⟨v,rfl,rx⟩:=rxs.inv1
  cases ex:AH x h1 with
  |none=>s[ex] at P1;e #N
  |some xs=>
   s[ex] at P1;o⟨a,vs,rfl,q1,r1⟩:=Ds R1 rx ex;rw[←hK];r⟨a,vs,rfl,q1,P1 F1 m1 H1 (Ite g.K a) .refl R1 λF2 m2 h2 H2 i l2 R2=>?_⟩;h rx2:=%6a
   cases e2:AH x h2 with
   |none=>s[e2,Option.map_none]
   |some ys=>
    x8;c ea
    cases ei:ys[i]? with
    |some y=>
     n8;r⟨⟨us,u,q2,h1'⟩,λx' H' ⟨T,w,ex',hT,eH,y'⟩=>?_⟩;subst ex';subst eH;h:=y' us q2;rw[h1'] at this;c this;h lf:Le F2 m2 h2.length (upd F2 T (%0a&0u u)) m2 h2.length:=.frz (R2.TU hT)
     e⟨_,lf,R2.ny hT,.tup Bi (.cons .int (%4P(h2'.mono lf)))⟩
    |none=>e⟨us,q2,by rw[←r2.length];e List.getElem?_eq_none_iff.mp ei⟩
 ·e #N⟩
end
end G
end L2
namespace L2
namespace G
open PySem PySem.Spec PyProof.Rows
variable [NC]
section
variable{g:Wd}{F F1:Hp}{m m1:Nat→Addr}{n k:Nat}
mutual
%tRW.down:∀{x:W} {v1 v:V},RW g F1 m1 n x v1→RW g F m k x v→RW g F m n x v
 |_,_,_,.non,q=>by c q;e .non
 |_,_,_,.bl,q=>by c q;e .bl
 |_,_,_,.int,q=>by c q;e .int
 |_,_,_,.str,q=>by c q;e .str
 |_,_,_,.ref h,q=>by c q;e .ref h
 |_,_,_,.lst h r,q=>by
  cases q with
  |lst h' r'=>e .lst h' (RWs.down r r')
 |_,_,_,.arg h r,q=>by
  cases q with
  |arg h' r'=>e .arg h' (RWs.down r r')
 |_,_,_,.tup h r,q=>by
  cases q with
  |tup h' r'=>e .tup h' (RWs.down r r')
 |_,_,_,.ktp h hc hd ho hz hv r,q=>by
  cases q with
  |ktp h' hc' hd' ho' hz' hv' r'=>e .ktp h' hc' hd' ho' hz' hv' (RWs.down r r')
 |_,_,_,.kd h hk r,q=>by
  cases q with
  |kd h' hk' r'=>e .kd h' hk' (RWs.down r r')
 |_,_,_,.fn h,q=>by
  cases q with
  |fn h'=>e .fn h'
 |_,_,_,.xc h h1 h2,q=>by
  cases q with
  |xc h' h1' h2'=>e .xc h' h1' h2'
%tRWs.down:∀{xs:%m} {vs1 vs:%c},RWs g F1 m1 n xs vs1→^eg F m k→RWs g F m n xs vs
 |_,_,_,.nil,q=>by c q;e .nil
 |_,_,_,%7B,q=>by
  cases q with
  |cons h' r'=>e .cons (RW.down h h') (RWs.down r r')
end
%tRK.down{κ:Type}:∀{xs:%8f} {vs1 vs:#P},RK g F1 m1 n xs vs1→RK g F m k xs vs→RK g F m n xs vs
 |_,_,_,.nil,q=>by c q;e .nil
 |_,_,_,%7B,q=>by
  cases q with
  |cons h' r'=>e .cons (RW.down h h') (RK.down r r')
%tRO.down{o:O}{u1 u:HO}(a:RO g F1 m1 n o u1)(b:RO g F m k o u):RO g F m n o u:=by
 cases a with
 |lst r=>cases b with|lst r'=>e .lst (r.down r')
 |dct r=>cases b with|dct r'=>e .dct (r.down r')
 |ins h r=>cases b with|ins h' r'=>e .ins h' (r.down r')
 |hole=>e .hole
%dTV:W→Bool
 |.int _=>true
 |.str _=>true
 |.bl _=>true
 |.non=>true
 |_=>false
%tRW.flat{x:W}{v:V}(h:TV x=true)(r:RW g F m k x v):RW g F1 m1 n x v:=by c r<;>first|e .int|e .str|e .bl|e .non|c h
%tRWs.pL:∀{xs:%m} {vs:%c},^eg F m k→xs.all TV=true→RWs g F1 m1 n xs vs
 |_,_,.nil,_=>.nil
 |_,_,.cons (x:=x) (xs:=xs) h r,e=>by
  h e:(TV x&&xs.all TV)=true:=e;rw[Bool.and_eq_true] at e;e .cons (h.flat e.1) (RWs.pL r e.2)
%tRWs.flat{xs:%m}{vs:%c}(r:^eg F m k)(e:xs.all TV=true):^eg F1 m1 n:=RWs.pL r e
end
%tRep.freeze{g:Wd}{F F1:Hp}{m m1:Nat→Addr}{h:%a}{H H1:Hp}{acc:%m}{vs:%c}(R1:#KF1 m1 h H1)(R:#KF m(h++[.lst acc])H)(hv:H (m h.length)=%Vvs):#K(^VF(m h.length)vs)m h H:=by
 h hl:(h++[O.lst acc]).length=h.length+1:=by simp
 h hn:F (m h.length)=none:=R.out h.length (by rw[hl];e %0s) (by simp);r⟨λa o e=>?_,λi hi hh=>?_,λi j hi hj=>R.inj i j (by rw[hl];omega) (by rw[hl];omega),λi o e=>?_⟩
 ·by_cases ha:a=m h.length
  ·rw[ha,Bi] at e;d;rw[ha];e hv
  ·rw[Ay ha] at e;e R.frz a o e
 ·rw[Ay λz=>Nat.ne_of_lt hi (R.inj i h.length (by rw[hl];omega) (by rw[hl];omega) z)];e R.out i (by rw[hl];omega) (by rwa[List.getElem?_append_left hi])
 ·o⟨u1,_,e2⟩:=R1.obj i o e;o⟨u,e3,e4⟩:=R.obj i o (by rw[List.getElem?_append_left &4n.1];e e);e⟨u,e3,(e2.down e4).mono (.frz hn)⟩
%dPur(f:FE):Prop:=∀σ h y h',f σ h=^Oy→h'=h∧∀g,f σ (h++g)=.ok y (h++g)
%dlz(f:FI):Prop:=∀σ h it h',f σ h=^Oit→∀j g r,it.2 j h'=some r→it.2 j (h'++g)=some r
%dlcK(it:Nat→%a→%9e)(i:Nat)(fe:FE)(σ:Sa)(h:%a):Nat→Nat→%m→Res W
 |0,j,acc=>match it j h with
  |some none=>%3jacc
  |_=>.bad
 |k+1,j,acc=>match it j h with
  |some %v=>match fe (%8o%v) h with
   |.ok y _=>if TV y=true∧acc.length<sizeLine then lcK it i fe σ h k (j+1) (acc++[y]) else .bad
   |_=>.bad
  |_=>.bad
%dfLc(f:FI)(i:Nat)(fe:FE):FE:=λσ h=>(f σ h).bind λit h1=>lcK it.2 i fe (%8onone) h1 it.1 0 []
%tRN.wipe{g:Wd}{F:Hp}{m:Nat→Addr}{n:Nat}{σ:Sa}{τ:St}(i:Nat)(h:RN g F m n σ τ):RN g F m n (%8onone) (L2.wipe τ [i]):=by
 r⟨by show(%8onone).length=&0S.length;rw[List.length_set,List.length_set];e h.1,λj y e=>?_⟩;f4
 ·subst hj;rw[List.getElem?_set] at e;z
  ·split at e<;>c e
  ·T;e ^Uq
 ·m9;o⟨v',a,b⟩:=h.2 j y e;e⟨v',by show&0S[j]? =_;rw[List.getElem?_set_ne &1P];e a,b⟩
%tie{τ:St}{i:Nat}{v:%8i}:L2.wipe ((L2.wipe τ [i]).set i v) [i]=L2.wipe τ [i]:=by
 show((&0S.set i v).set i none)=&0S;rw[List.set_set,List.set_set]
section
variable{g:Wd}{E:XK}{X:Cx}{elt iter:Expr}{scope:Scope}{x:Str}{i:Nat}{pos p:Pos}{fi:FI}{fe:FE}
%tkJ(hc:X.calm=true)(hN:X.N.Nodup)(pf:Pur fe)(pi:lz fi)(hi:DI g E X (%7qp) iter fi)(ok:aK X.N X.env.scope scope [(x,i)])
 (hg:∀(s:Shared) (H:Hp) (C:Addr) (cl:#O) (fp:&H),PG (%1ls H(%6Ecl C)fp) (%7qp) (Xf i))
 (he:∀(s:Shared) (H:Hp) (C:Addr) (cl:#O) (fp:&H),DE g E0 (%1ls H(%6Ecl C)fp) elt fe) (hs:∀x,&1witer x=%1M:=by intro _;rfl):
 %R(&2pelt [⟨%7qp,iter,[],0⟩]pos)(fLc fi i fe):=(t8 hc hN hi ok hg (λ_ _ _ _ _=>mD) he hs).imp λσ H Q ⟨F,m,h,τ,R,N,P⟩=>by
 h P0:=P
 cases ef:fi τ h with
 |bad=>u fLc at P;rw[ef] at P;e %j
 |exc c fs=>u fLc at P;rw[ef] at P;e⟨F,m,h,τ,R,N,by rw[ef];e P⟩
 |ok it h1=>
  have pit:=pi τ h it h1 ef;u fLc at P;rw[ef] at P;h P:^ug E%1t F m(lcK it.2 i fe &0S h1 it.1 0 [])Q:=P;i0;rw[ef];intro F1 m1 H1 J l R1 hJ D hD;h hl:∀a:%m,(h1++[O.lst a]).length=h1.length+1:=λa=>by simp
  r⟨λj k H=>∃F2 m2 acc,Le F1 m1 h1.length F2 m2 (h1.length+1)∧&6M=D∧#KF2 m2(h1++[.lst acc])H∧acc.all TV=true∧^ug E%1t F m(lcK it.2 i fe &0S h1 k j acc)Q,⟨it.1,F1,ext m1 h1.length D,[],.new,Fv,R1.fQ hD (.lst .nil),rfl,P⟩,?_⟩;rintro j k H2 ⟨F2,m2,acc,l2,eD,R2,fl,P2⟩;h l2':Le F1 m1 h1.length F2 m2 (h1++[O.lst acc]).length:=by rw[hl];e l2
  h a:=hJ F2 m2 _ H2 j l2' R2;h lD:Le F1 m1 h1.length F2 m2 h1.length:=⟨l2.fr,%L,l2.ad⟩
  cases k with
  |zero=>
   u lcK at P2;q
   ·a7;rw[pit j _ _ e] at a;r .inl ⟨a,?_⟩;o⟨u,e1,e2⟩:=R2.obj h1.length (.lst acc) (by simp)
    cases e2 with
    |lst rv=>
     have hn:F2 &6M=none:=R2.out h1.length (by rw[hl];e %0s) (by simp);h:=P2 (^VF2&6M _) m2 H2 (.ref &6M) (l.trans (lD.trans (.frz hn))) (R1.freeze R2 e1) (.lst Bi (rv.flat fl))
     rwa[eD] at this
   ·e ^F
  |succ k=>
   u lcK at P2;q
   ·rename_i x e;rw[pit j _ _ e] at a;q
    ·rename_i y h' ey;q
     ·E;o⟨pe1,pe2⟩:=pf _ _ _ _ ey;r %8Ga.1 _(λH' q=>⟨k,%0s,q⟩)(λx' H' yv=>?_);o⟨F3,l3,R3,rx⟩:=a.2 x' H' yv;r⟨ie,?_⟩;show wE g E0 fe _ H' _;h N3:RN g F3 m2 (h1++[O.lst acc]).length &0S (L2.wipe σ [i]):=(#d.wipe i).mono (l2'.trans l3);r⟨F3,m2,h1++[.lst acc],&0S.set i %v,R3,N3.set i rx,?_⟩;rw[pe2];intro F4 m4 H4 y' l4 R4 ry;o⟨u,e1,e2⟩:=R4.obj h1.length (.lst acc) (by simp);h eD4:m4 h1.length=D:=(l4.ad h1.length (by rw[hl];e %0s)).trans eD;rw[eD4] at e1
      cases e2 with
      |lst rv=>
       r⟨_,e1,by rw[←rv.length];e hz.2,F4,m4,acc++[y],?_,eD4,?_,?_,P2⟩
       ·h:=(l2'.trans l3).trans l4
        rwa[hl] at this
       ·h q:=R4.bg (i:=h1.length) (o:=.lst (acc++[y])) (u:=.lst (_++[y'])) (by rw[hl];e %0s) (by simp) (.lst (rv.append (.one ry)));rw[eD4] at q
        rwa[List.set_append_right _ _ %L,Nat.sub_self] at q
       ·rw[List.all_append,fl];simp[hz.1]
     ·e ^F
    ·e ^F
   ·e ^F
end
end G
end L2
namespace L2
open PySem PySem.Spec PyProof.Rows SeqAt
%tjZ{M:Model}{A:Around}{E:Value→Shared→Prop}{s:Shared}{items:%0G}{x:Value}{e:Value→Bool}{Q:Option Fin×Unit→Shared→Prop}{j:Nat}(hj:j<items.size)(hit:e items[j]=true)(hno:∀m (hm:m<items.size),m<j→e items[m]=false)
 (heq:∀y,y∈items→∀(Q:Bool→Shared→Prop),Q (e y) s→#AM A(eqBool y x)Q E) (hq:&4t(some (.done (.ret (.int j s.toks))),())):
 ∀k i,i+k=items.size→i≤j→wpAny M A (forIn (List.range' i k) ((none,()):Option Fin×Unit) λ(i:Nat) _=>match items[i]? with
       |some y=>do
        let b←eqBool y x
        if b=true then do
         let r←retInt ((i:Nat):Int)
         pure (ForInStep.done (some r,()))
         else &2U(none,())
       |_=>&2U(none,())) Q E s:=by
 intro k
 induction k with
 |zero=>intro i h1 h2;omega
 |succ k ih=>
  intro i h1 h2;h hi:i<items.size:=%w;h e1:items[i]? =some items[i]:=by simp[hi]
  rw[List.range'_succ,List.forIn_cons];s[e1];r &1t(heq _ (Array.getElem_mem hi) _ ?_);by_cases hij:i=j
  ·subst hij;rw[hit,%9l]
   wp_walk
   e hq
  ·rw[hno i hi %w,if_neg Bool.false_ne_true];e wpAny_pure (ih (i+1) %w %w)
%tVY(l:Addr)(items:%0G)(n:Nat)(dd:%0v)(sl:&3n)(x:Value)(e:Value→Bool)(j:Nat)(hj:j<items.size)
 (hit:e items[j]=true) (hno:∀m (hm:m<items.size),m<j→e items[m]=false):
 Meets (Builtin.«tuple.index» ⟨[.ref l,x],[]⟩)
  (λA R s=>s.heap.get? l=some {cls:=#M,dict:=dd,data:=.seq items n,slots:=sl}∧(∀y,y∈items→EqAt A.in1 s y x (e y))∧R (.ok (.ret (.int j s.toks))) {s with toks:=s.toks+1}):=by
 intro prog w A R s h;o⟨hp,g,d,tk,os⟩:=s;o⟨hl,he,h⟩:=h;u Builtin.«tuple.index»;s[Std.Legacy.Range.forIn_eq_forIn_range']
 wp_walk using wpAny_loadPart' hl
 h hz:[:min items.size items.size].size=items.size:=by simp[Std.Legacy.Range.size]
 rw[hz];r jZ (e:=e) hj hit hno (λy hy Q q=>he y hy prog w _ Q q) ?_ items.size 0 %w #q;e &0t
%dtM(K:PySem.W.Frag):V→%c→Hp→VK→Prop:=λx xs H Q=>∃(a:Addr) (o:Obj) (its:%0G) (n:Nat) (ys:%c) (y:V) (j:Nat) (z:V),x=V.ref a∧xs=[y]∧&5f=%b∧o.cls=#M∧o.data=.seq its n∧Vals ys its.toList∧Hm y=true∧ys.all Hm=true∧ys[j]? =%9U∧eqV z y=true∧
 (∀(m:Nat) (z':V),m<j→ys[m]? =some z'→eqV z' y=false)∧%4o(j:Nat)H
%tfT{X:Cx}:MtR X "tuple.index" (tM X.K):=by
 intro pins s σ H x xs v us Q I rx rxs h;o⟨a,⟨oc,od,odt,osl⟩,its,n,ys,y,j,z,rfl,rfl,hk,hc,hd,rv,fy,fys,hz,hzj,hno,q⟩:=h;m
 cases rxs with
 |cons ry rt=>
  rename_i uy ut;c rt;simp only at hc hd;subst hc hd;h ho:=I.kIn _ _ hk;o⟨u,hu,ru⟩:=rv.get hz;o⟨hjl,hje⟩:=List.getElem?_eq_some_iff.mp hu;h hvl:=rv.length;h hj:j<its.size:=by simpa using hjl
  r call_meets PySem.F.slot_tuple_index ⟨_,ho,rfl⟩ PySem.F.entry_tuple_index (PySem.F.args_tuple_index_2 _ _)
   (VY a its n od osl uy (eqU y) j hj ?_ ?_) ⟨ho,λu' hu'=>Lj ry fy rv fys u' (by simpa using hu'),?_⟩
  ·h e1:its[j]=u:=by simpa using hje
   rw[e1,YH ru (dC fys hz)];e hzj
  ·intro m hm hmj;h hml:m<its.toList.length:=by simpa using hm
   h hmy:m<ys.length:=%w;h hy':ys[m]? =some ys[m]:=List.getElem?_eq_getElem hmy;o⟨u2,hu2,ru2⟩:=rv.get hy';o⟨_,hme⟩:=List.getElem?_eq_some_iff.mp hu2;h e1:its[m]=u2:=by simpa using hme
   rw[e1,YH ru2 (dC fys hy')];e hno m _ hmj hy'
  ·e⟨.int (j:Nat),H,%1B,⟨_,rfl⟩,q⟩
namespace G
variable [NC]
%dfTM(f:%m→%m→%a→%p)(a:FE)(r:FA):FE:=λσ h=>(a σ h).bind λx h1=>match x with
 |.ktp ts=>(r σ h1).bind λxs h2=>f ts xs h2
 |_=>.bad
%dTz:%m→%m→%a→%p:=λts xs h=>match xs with
 |[y]=>if(EA y&&ts.all EA)=true then match ts.findIdx? (λz=>eqW z y) with
  |some j=>%1F(j:Nat)
  |none=>.bad
  else .bad
 |_=>.bad
section
variable{g:Wd}{E:XK}{X:Cx}{o e:Expr}{es:List Expr}{fa:FE}{fl:FA}{apos cpos:Pos}
%taG{F:Hp}{m:Nat→Addr}{n:Nat}:∀{xs:%m} {vs:%c},^eg F m n→xs.all EA=true→vs.all Hm=true
 |_,_,.nil,_=>rfl
 |_,_,.cons (x:=x) (xs:=xs) h r,e=>by
  h e:(EA x&&xs.all EA)=true:=e;rw[Bool.and_eq_true] at e;show(Hm _&&_)=true;rw[N5 h e.1,aG r e.2];a
%tkG(hK:g.K=X.K)(ho:%4So)(ha:DA g E X (e::es) fl)
 (hbase:%4Co"index"%0M=%0M:=by rfl)
 (hfew:((%6D(e::es)).all (λx=>!x.1)&&(%7Hcpos []).all (λx=>x.1.isSome)
   &&decide ((e::es).length+([]:&0G).length+(if([]:&0G).isEmpty then 0 else 1)<30))=true:=by rfl)
 (hline:(apos.endLine==cpos.line)=true:=by rfl) (hs:%3d=(false,#u)::%1m:=by rfl) (hplain:(%6Des).any (·.1)=false:=by rfl):
 %R(^Yo"index"(e::es)cpos)(fTM Tz fa fl):=(jr PySem.F.plainAttrs_tuple PySem.F.slot_tuple_index PySem.F.type_tuple_index fT ho ha hbase hfew hline hs hplain).imp λσ H Q ⟨F,m,h,τ,R,N,P⟩=>⟨F,m,h,τ,R,N,AD P λx h1 F1 m1 H1 v l R1 rx P1=>by
 cases rx with
 |ktp hk hc hd hdt hz hv rs=>
  rw[hK] at hk;r⟨.inr (.inl ⟨rfl,_,hk,hc,hd⟩),F1,m1,h1,τ,R1,#d,AD P1 λxs h2 F2 m2 H2 vs l2 R2 rxs P2=>?_⟩;u Tz at P2;q
  ·rename_i y;o⟨u,rfl,ry⟩:=rxs.inv1;q
   ·n6;q
    ·rename_i j ej;o⟨hj,hjt,hjn⟩:=List.findIdx?_eq_some_iff_getElem.mp ej;o⟨z,hz1,hz2⟩:=(rs.mono l2).get (List.getElem?_eq_getElem hj);r⟨_,_,_,_,_,u,j,z,rfl,rfl,hk,hc,hdt,hv,N5 ry hz.1,aG rs hz.2,hz1,?_,λk z' hkj hz'=>?_,P2 F2 m2 H2 _ .refl R2 .int⟩
     ·rw[b8 hz2 ry (List.all_eq_true.mp hz.2 _ (List.getElem_mem hj)) hz.1];e hjt
     ·h hkl:k<_:=Nat.lt_trans hkj hj;o⟨z2,w1,w2⟩:=(rs.mono l2).get (List.getElem?_eq_getElem hkl);rw[w1] at hz';c hz';rw[b8 w2 ry (List.all_eq_true.mp hz.2 _ (List.getElem_mem hkl)) hz.1];h:=hjn k hkj;f3
    ·e ^F
   ·e ^F
  ·e ^F
 |_=>e #N⟩
end
end G
section
variable{X:Cx}{o i:Expr}{td ty:TE}{pos:Pos}
%dtj(X:Cx)(td ty:TE):TE:=λσ H Q=>td σ H λx H1=>ty σ H1 λy H2=>∃a kvs k v,x=%N∧G.KDc X.K X.prog X.w a kvs∧y=%1b∧LS kvs k=%W∧Q v H2
%tmW(ho:%ko td)(hi:%ki ty)(hs:lB i):%k(%9ro i)(tj X td ty):=by
 j;r cH PySem.F.slot_dict_getitem.lookup hs (thn (ho pins s σ H _ I h) λu s1 ⟨x,H1,I1,rx,q1⟩=>thn (hi pins s1 σ H1 _ I1 q1) λiv s2 ⟨y,H2,I2,ry,a,kvs,k,v,ex,kd,ey,l,q2⟩=>?_);subst ex ey;obtain rfl:u=%3M:=rx;o⟨_,_,vs,rel,dd⟩:=kd s2.heap I2.kIn;o⟨w',hw,rw'⟩:=JL.some_of (v:=v) (o:=valueAt vs k) (by rw[←l];e %9s);e⟨dd.typeIs,wpAny_getItem_of (RF ry) dd.mapOf hw ⟨v,H2,I2.tok _,rw',q2⟩⟩
end
end L2
namespace L2
open PySem PySem.Spec PyProof.Rows
section
variable{X:Cx}{o i e:Expr}{td ty:TE}{pos p apos cpos:Pos}
%dp0(X:Cx)(neg:Bool)(ty td:TE):TE:=λσ H Q=>ty σ H λy H1=>td σ H1 λx H2=>∃a kvs k,x=%N∧G.KDc X.K X.prog X.w a kvs∧y=%1b∧^N(if neg then !(LS kvs k).isSome else(LS kvs k).isSome)H2
%tqV(hi:%ki ty)(ho:%ko td):PC X .In i o (p0 X false ty td):=by
 j;o3;w8;r wpAny_in_of (RF ry) hd dd.mapOf ?_;rw[←%9s.HF];e⟨.bl _,H2,I2.tok _,rfl,q2⟩
%tfE(hi:%ki ty)(ho:%ko td):PC X .NotIn i o (p0 X true ty td):=by
 j;o3;w8;r wpAny_notIn_of (RF ry) hd dd.mapOf ?_;rw[←%9s.HF];e⟨.bl _,H2,I2.tok _,rfl,q2⟩
%dsZ(td:TE):TE:=λσ H Q=>td σ H λx H1=>∃a kvs,∃ns:%1L,x=%N∧H1 a=%5p∧kvs.map (·.2)=&6K∧0<ns.length∧∀m,m∈ns→(∀y,y∈ns→y≤m)→%4om H1
%tjR{kvs:#E}{us:&3d}{ns:%1L}:KV kvs us→kvs.map (·.2)=&6K→∀(i:Nat) (k:Key) (v:Value),us[i]? =&5x→∃t,v=.int (ns.getD i 0) t:=by
 intro r;u KV at r
 induction r generalizing ns with
 |nil=>intro _ i k v e;simp at e
 |@cons p q ps qs h t ih=>
  intro e i k v ei
  cases ns with
  |nil=>simp at e
  |cons n ns=>
   rw[List.map_cons,List.map_cons] at e;injection e with e1 e2
   cases i with
   |zero=>
    simp at ei;h h2:=h.2;rw[e1,ei] at h2;o⟨t,ht⟩:=h2
    e⟨t,ht⟩
   |succ i=>e ih e2 i k v (by simpa using ei)
%tmU(hc:X.calm=true)(hg:Gl X "max")(hm:X.mg "max"=none)(he:%ke td)(hbase:%4Ce"values"#u=#u:=by rfl)(hline:(apos.endLine==cpos.line)=true:=by rfl)
 (hs:%5M(Expr.Call (.Attribute e "values" apos) [] [] cpos)=[(false,#B(^Ye"values" []cpos))]:=by rfl):
 %k(%6H"max"p [^Ye"values" []cpos])(sZ td):=by
 j;r wpAny_Call_Name_kw (Qc I hg hm PyProof.Rows.boot_max ?_);r PyProof.Rows.callWith_builtin1 ?_ hs rfl;rw[hs];show #A_ _(spliced ((false,#B(^Ye"values" []cpos))::backTo pos []))_ _;r Calls.spliced_cons ?_;r wpAny_Call_method (T:="dict") (id:="dict.values") hbase rfl hline F.plainAttrs_dict F.slot_dict_values F.type_dict_values (thn (he pins s σ H _ I h) λu s1 ⟨x,H1,I1,rx,d,kvs,ns,ex,hd,ens,hn,q⟩=>?_);P;obtain rfl:u=Value.ref d:=rx;o⟨z,hsys,vs,rel,dd⟩:=Xk I1.hok hd;o⟨ep,hat⟩:=dd.dictAt;r⟨dd.typeIs,dd.mapOf.noDict,?_⟩;show wpAny _ _ (callWith cpos (.builtin "dict.values") [^z] [] []) _ X.xe s1;r method_meetsIn F.slot_dict_values F.entry_dict_values rfl (PySem.evalArgs_none ⟨rfl,dd.typeIs,F.args_dict_values_1 _,_,meets_dict_values (Ci X.prog X.w) d hsys,⟨vs,dd⟩,?_⟩);r Calls.spliced_nil ?_
 h hlen:vs.length=ns.length:=by
  h h1:kvs.length=vs.length:=Paired.length rel;h h2:=%8Yens;simp at h2;b
 h hat1:=hat.push {cls:=&6e,data:=&6g};h I2:&OH1 {s1 with heap:=s1.heap.push {cls:=&6e,data:=&6g}}:=I1.kept (t':=s1.toks) λb ob q=>%6y;r call_max_walk (wpAny_pyIter_values (d:=d) (knd:=Ci X.prog X.w) ⟨_,^l,rfl,rfl⟩ hat1 ?_)
 h hdlt:d<s1.heap.objs.size:=let⟨o,es,ho,_⟩:=hat;Heap.lt_size ho
 h hne:d≠(s1.heap.push {cls:=&6e,data:=&6g}).objs.size:=by
  h:(s1.heap.push {cls:=&6e,data:=&6g}).objs.size=s1.heap.objs.size+1:=by simp[Heap.push]
  l;e Nat.ne_of_lt (Nat.lt_succ_of_lt hdlt)
 r⟨_,_,_,_,_,_,λi j=>decide (ns.getD i 0>ns.getD j 0),rfl,Walks.dictValues (knd:=Ci X.prog X.w) (A:=X.A.in1) %3f _ d hne vs ep,⟨⟨_,^l,rfl,?_⟩,hat1.push _⟩,?_,%w,CmpOf.ints_gt (λi=>ns.getD i 0) (λi v hv=>?_),λv h' tk hv hk=>?_⟩
 ·a
 ·intro b hb;s[List.mem_cons,List.not_mem_nil,or_false] at hb;s[Heap.push,Array.size_push];rcases hb with rfl|rfl
  ·simp[Heap.push]
  ·e Nat.lt_succ_of_lt (Nat.lt_succ_of_lt hdlt)
 ·o⟨k,hv⟩:=hv;e jR rel ens i k v hv
 ·o⟨k,hv⟩:=hv;o⟨t,rfl⟩:=jR rel ens _ k v hv;o⟨h1,h2⟩:=argBest_gt (λi=>ns.getD i 0) (vs.length-1);r⟨.int _,H1,I2.kept (t':=tk) λb o eo=>hk b o (λhmem=>?_) (%5ceo),⟨t,rfl⟩,q _ ?_ λa ha=>?_⟩
  ·rcases List.mem_cons.mp hmem with e1|hmem
   ·e %4v(e1▸Heap.lt_size eo)_
   ·c hmem
  ·e PySem.getD_mem %w
  ·o⟨j,hj,rfl⟩:=mem_getD ha;e h2 j %w
end
section
variable{X:Cx}
%tgD:Hq X %1z (λxs H Q=>∃a kvs,xs=[.ref a]∧&Q=%5p∧∀p,%0q=none→%1S(%Yp%3K)):=by
 b7;o⟨a,kvs,rfl,ha,q⟩:=h;o⟨u,rfl,ru⟩:=vals1 r;c ru;o⟨z,hd,vs,rel,dd⟩:=Xk I.hok ha;r kt_call_dict (knd:=Ci X.prog X.w) hd dd (by rw[←rel.length];e z) λh' dd' hs=>?_;h hn:=I.hok.fresh (Nat.le_refl s.heap.objs.size);h hb:(s.heap.objs.size==sysModules)=false:=beq_eq_false_iff_ne.mpr (Nat.ne_of_gt I.big);h I1:&O(&2Y%8v){s with heap:=s.heap.push {cls:=%1z,data:=%3Q},toks:=s.toks}:=I.laid (a:=s.heap.objs.size) (o:=%8v) (h':=s.heap.push {cls:=%1z,data:=%3Q}) (t':=s.toks) (λ_ _ q=>%6y) %L (VL s.heap I.big)
 h he:∃q,h'.get? s.heap.objs.size=%6w:=let⟨q,_,_,hq,_⟩:=dd';⟨q,hq⟩
 h I2:=R8 (t':=s.toks) I1 (by rw[Bi];e True.intro) hs he (YK z hb rel dd');rw[lP] at I2;e⟨.ref s.heap.objs.size,_,I2,rfl,q _ hn⟩
%dvp:V→%c→Hp→VK→Prop:=λx xs H Q=>∃a b kvs more,x=%N∧xs=[.ref b]∧a≠b∧&Q=%5p∧%O=some (.dK more)∧kvs.length+more.length≤sizeLine∧Q .non (%Ya(.dK (Kv kvs more)))
%tfS:MtR X "dict.update" vp:=by
 intro pins s σ H x xs v us Q I rx rxs h;o⟨a,b,kvs,more,rfl,rfl,ne,ha,hb,hz,q⟩:=h;m
 cases rxs with
 |cons ry rt=>
  c rt;c ry;o⟨z,hd,vs,rel,dd⟩:=Xk I.hok ha;o⟨z2,hd2,vs2,rel2,dd2⟩:=Xk I.hok hb;r call_meetsIn F.slot_dict_update dd.typeIs F.entry_dict_update (F.args_dict_update_2 _ _) (meets_dict_update (Ci X.prog X.w) a b ne hd2) ⟨vs,vs2,dd,dd2,by rw[←rel.length,←rel2.length];e hz,λh' dd' _ hs=>?_⟩
  h he:∃q,&5y=%6w:=let⟨q,_,_,hq,_⟩:=dd';⟨q,hq⟩
  h hl:(Kv kvs more).length≤sizeLine:=Nat.le_trans (Kz more kvs) hz;e⟨.non,_,R8 (t':=s.toks) I (by rw[ha];e True.intro) hs he (YK hl hd (rel2.merge rel) dd'),rfl,q⟩
end
end L2
namespace L2
namespace G
open PySem PySem.Spec PyProof.Rows
variable [NC]
%ddel(F:Hp)(d:Addr):Hp:=λa=>if a=d then none else F a
%tMr{F:Hp}{a d:Addr}(h:a≠d):del F d a=F a:=if_neg h
%tkC{F:Hp}{d:Addr}:del F d d=none:=%9l
%trh{F:Hp}{a d:Addr}{o:HO}(h:del F d a=%b):a≠d∧F a=%b:=by
 u del at h;L
 ·c h
 ·T;e⟨q,h⟩
section
variable{g:Wd}{F:Hp}{m:Nat→Addr}{n:Nat}{d:Addr}{od:Obj}{ds:List (Key×V)}
%tOA{a:Addr}{o:HO}(hF:F d=&2i)(h:F a=%b)(q:∀x y,o≠.frz x (.dK y)):a≠d:=λz=>by
 rw[z,hF] at h;c h;e q _ _ rfl
mutual
%tRW.unlock(hF:F d=&2i):∀{x:W} {v:V},RW g F m n x v→RW g (del F d) m n x v
 |_,_,.non=>.non
 |_,_,.bl=>.bl
 |_,_,.int=>.int
 |_,_,.str=>.str
 |_,_,.ref h=>.ref h
 |_,_,.lst h r=>.lst (by rw[Mr (&2NhF h)];e h) (&3Yr)
 |_,_,.arg h r=>.arg (by
   n7
   ·e .inl (.inl (by rw[Mr (&2NhF h)];e h))
   ·e .inl (%4No(by rw[Mr (&2NhF h)];e h))
   ·e .inr h) (&3Yr)
 |_,_,.tup h r=>.tup (by rw[Mr (&2NhF h)];e h) (&3Yr)
 |_,_,.ktp h hc hd ho hz hv r=>.ktp h hc hd ho hz hv (&3Yr)
 |_,_,.kd h hk r=>.kd h hk (&3Yr)
 |_,_,.fn h=>.fn h
 |_,_,.xc h h1 h2=>.xc h (by rw[Mr (&2NhF h1)];e h1) (by rw[Mr (&2NhF h2)];e h2)
%tRWs.unlock(hF:F d=&2i):∀{xs:%m} {vs:%c},^eg F m n→RWs g (del F d) m n xs vs
 |_,_,.nil=>.nil
 |_,_,%7B=>.cons (RW.unlock hF h) (&3Yr)
end
%tRK.unlock{κ:Type}(hF:F d=&2i):∀{xs:%8f} {vs:#P},RK g F m n xs vs→RK g (del F d) m n xs vs
 |_,_,.nil=>.nil
 |_,_,%7B=>.cons (h.unlock hF) (RK.unlock hF r)
%tRO.unlock{o:O}{u:HO}(hF:F d=&2i)(h:RO g F m n o u):RO g (del F d) m n o u:=by
 cases h with
 |lst r=>e .lst (r.unlock hF)
 |dct r=>e .dct (r.unlock hF)
 |ins h r=>e .ins h (r.unlock hF)
 |hole=>e .hole
%tRN.unlock{σ:Sa}{τ:St}(hF:F d=&2i)(h:RN g F m n σ τ):RN g (del F d) m n σ τ:=⟨h.1,λi x e=>let⟨v,a,b⟩:=h.2 i x e;⟨v,a,b.unlock hF⟩⟩
variable{h:List O}{H:Hp}{j:Nat}{kvs:List (Key×W)}
%tRep.lock(R:&C)(hj:h[j]? =#gkvs)(od:Obj)(ds:#E):#K(upd F (m j) (.frz od (.dK ds)))m(%5vj)(%Y(m j)(.frz od (.dK ds)))∧F (m j)=none:=by
 z6;h hn:F (m j)=none:=R.out j hl (by rw[hj];simp);r⟨⟨λa o e=>?_,λi hi hh=>?_,λi k hi hk=>R.inj i k (by simpa using hi) (by simpa using hk),λi o e=>?_⟩,hn⟩
 ·by_cases ha:a=m j
  ·rw[ha,Bi] at e;rw[ha,Bi];e e
  ·rw[Ay ha] at e;rw[Ay ha];e R.frz a o e
 ·h hi':i<h.length:=by simpa using hi
  h hij:i≠j:=λz=>by rw[z,List.getElem?_set_self hl] at hh;e hh rfl
  rw[Ay λq=>hij (R.inj i j hi' hl q)];w1
 ·a1;by_cases hij:i=j
  ·subst hij;rw[List.getElem?_set_self hl] at e;d;e⟨_,Bi,.hole⟩
  ·u4;h hi:i<h.length:=&4n.1;e⟨u,by rw[Ay λq=>hij (R.inj i j hi hl q)];e e1,e2.mono (.frz hn)⟩
%tRep.unlock(R:&C)(hj:h[j]? =&2c)(hF:F (m j)=&2i)(r:RK g F m h.length kvs ds):#K(del F (m j))m(h.set j %3W)(%Y(m j)(.dK ds)):=by
 z6;r⟨λa o e=>?_,λi hi hh=>?_,λi k hi hk=>R.inj i k (by simpa using hi) (by simpa using hk),λi o e=>?_⟩
 ·o⟨e1,e2⟩:=rh e;rw[Ay e1];e R.frz a o e2
 ·h hi':i<h.length:=by simpa using hi
  by_cases hij:i=j
  ·rw[hij];e kC
  ·rw[Mr λq=>hij (R.inj i j hi' hl q)];w1
 ·a1;by_cases hij:i=j
  ·subst hij;rw[List.getElem?_set_self hl] at e;d;e⟨_,Bi,.dct (r.unlock hF)⟩
  ·u4;h hi:i<h.length:=&4n.1;e⟨u,by rw[Ay λq=>hij (R.inj i j hi hl q)];e e1,e2.unlock hF⟩
end
%tZ9{g:Wd}{E:XK}{t:TGA}{gT:TG}{fb:FS}{D:Ends}{σ:St}{F1:Hp}{m1:Nat→Addr}{h1:%a}{H1:Hp}{τ:Sa}{it:IT}{J:It}(ag:AG g t gT)(R1:#KF1 m1 h1 H1)(N:RN g F1 m1 h1.length τ σ)(hJ:AIt g F1 m1 h1.length it J)
 (P1:FW g E %4Y F1 m1 h1.length (Di it.2 t fb it.1 0 τ h1) D):∃W:Nat→Nat→St→Hp→Prop,(∃m,W 0 m σ H1)∧∀i m σ H,W i m σ H→
   (J.stop i H∧%5JH)∨(J.go i H∧∃N:St→Hp→Prop,(∀σ' H',N σ' H'→∃m',m'<m∧W (i+1) m' σ' H')∧∀x H',J.yld i H x H'→gT x σ H' λσ2 H2=>wS g E fb {D with nx:=N,ct:=N,bk:=D.nx} σ2 H2):=by
 r⟨λi k σ H=>∃F m h τ,Le F1 m1 h1.length F m h.length∧&C∧%5Gg F m τ σ∧FW g E %4Y F m h.length (Di it.2 t fb k i τ h) D,⟨it.1,F1,m1,h1,τ,.refl,R1,N,P1⟩,?_⟩;u0
 cases k with
 |zero=>
  u Di at P2;q
  ·a7;rw[e] at a;e .inl ⟨a,P2 F2 m2 H σ .refl R2 N2⟩
  ·e ^F
 |succ k=>
  u Di at P2;q
  ·rename_i x e;rw[e] at a;q
   ·v0;o9;h P3:=Gq l3 P2
    cases eb:fb τ3 h2 with
    |nx σ4 h4=>
     rw[eb] at P3
     e λF4 m4 H4 τ4 l4 R4 N4=>⟨F4,m4,h4,σ4,(l2.trans l3).trans l4,R4,N4,Gq l4 P3⟩
    |rt v h4=>rw[eb] at P3;e P3
    |exc c fs=>rw[eb] at P3;e P3
    |bad=>rw[eb] at P3;e P3
   ·e ^F
  ·e ^F
%dkW:Key→W
 |.inl i=>^x
 |.inr x=>%0J
%tiQ{g:Wd}{F:Hp}{m:Nat→Addr}{n:Nat}(k:Key):RW g F m n (kW k) %1b:=by
 cases k with
 |inl i=>e .int
 |inr x=>e .str
%tRK.key{g:Wd}{F:Hp}{m:Nat→Addr}{n:Nat}{κ:Type}:∀{xs:%8f} {vs:#P} (i:Nat),RK g F m n xs vs→(xs[i]?).map (·.1)=(vs[i]?).map (·.1)
 |_,_,_,.nil=>by simp
 |_,_,0,.cons _ _=>rfl
 |_,_,i+1,.cons _ r=>by simpa using RK.key i r
%dJu(kvs:&u):IT:=(kvs.length,λi _=>some ((kvs[i]?).map λkv=>kW kv.1))
%dunl(j:Nat)(kvs:&u):SR→SR
 |.nx σ h=>match h[j]? with
  |some .hole=>%1V(h.set j %3W)
  |_=>.bad
 |.rt v h=>match h[j]? with
  |some .hole=>.rt v (h.set j %3W)
  |_=>.bad
 |.exc c fs=>%5a
 |.bad=>.bad
%dNq(fe:FE)(t:TGA)(b:FS):FS:=λσ h=>match fe σ h with
 |.ok &g _=>match h[j]? with
  |some %3W=>match fe σ (%5vj) with
   |.ok (.ref j') _=>if j'=j then unl j kvs (Di &1d.2 t b &1d.1 0 σ (%5vj)) else .bad
   |_=>.bad
  |_=>.bad
 |_=>.bad
%dQuiet(f:FE):Prop:=∀σ h y h',f σ h=^Oy→h'=h
%tPur.quiet{f:FE}(p:Pur f):Quiet f:=λσ h y h' e=>(p σ h y h' e).1
section
variable{g:Wd}{E:XK}{X:Cx}{tg iter:Expr}{body:List Stmt}{t:TGA}{gT:TG}{fb:FS}{fe:FE}{pos:Pos}
%tb9(hp:PassesOwn %6i X.A X.env X.xe)(hc:X.calm=true)(qu:Quiet fe)(he:%Riter fe)(hg:PG X tg gT)(ag:AG g t gT)(hb:DSs g E X body fb)(hs:∀x,&1witer x=%1M:=by intro _;rfl):
 DS g E X (.For tg iter body [] pos) (Nq fe t fb):=(cV (bB hp hc (mR he) hg hb hs)).imp λD σ H ⟨F,m,h,τ,R,N,P⟩=>by
 u Nq at P;f
 ·rename_i j h0 e0;f
  ·rename_i kvs ej;f
   ·rename_i j' h1 e1;f
    ·rename_i hjj;subst hjj;h q1:=qu _ _ _ _ e1;o⟨u,hu,ro⟩:=R.obj j' _ ej
     cases ro with
     |@dct _ vs rk=>
      v1;p6;p0;rw[e1,q1];intro F2 m2 H2 b l2 R2 rb
      cases rb with
      |ref hi=>
       t1;p8;rw[em];r⟨m j',od,rfl,.inl ⟨vs,R2.frz _ _ hF2,?_⟩⟩;r Z9 (t:=t) (E:=E) (τ:=τ) (it:=&1d) ag R2 (by rw[hlen];e N.mono lw) (λF3 m3 h3 H3 i l3 R3=>?_) ?_
       ·h hF3:H3 %0o=&0W:=R3.frz _ _ (l3.fr _ _ hF2)
        show match some ((kvs[i]?).map λkv=>kW kv.1) with
         |some %v=>_
         |some none=>_
         |none=>_
        h kk:=rk2.key i
        cases ek:kvs[i]? with
        |none=>
         rw[ek] at kk;r⟨hF3,?_⟩
         cases ev:vs[i]? with
         |none=>e List.getElem?_eq_none_iff.mp ev
         |some p=>rw[ev] at kk;c kk
        |some p=>
         rw[ek] at kk
         cases ev:vs[i]? with
         |none=>rw[ev] at kk;c kk
         |some p'=>
          rw[ev] at kk;h kk:p.1=p'.1:=Option.some.inj kk;r⟨⟨hF3,(List.getElem?_eq_some_iff.mp ev).1⟩,λx' H' ⟨eH,k,v,e2,e3⟩=>?_⟩;subst eH;rw[ev] at e2;c e2;subst e3;e⟨F3,.refl,R3,by show RW g F3 m3 h3.length (kW p.1) %1b;rw[kk];e iQ k⟩
       ·h fin:∀{F4:Hp} {m4:Nat→Addr} {h4:%a} {H4:Hp},Le F2 m2 (h.set j' O.hole).length F4 m4 h4.length→#KF4 m4 h4 H4→h4[j']? =&2c→∀F0:Unit,H4 %0o=&0W∧#K(del F4 %0o)m4(h4.set j' %3W)(upd H4 %0o %6d)∧Le F m h.length (del F4 %0o) m4 (h4.set j' %3W).length:=by
         intro F4 m4 h4 H4 l4 R4 e4 _;r7;q8
         ·t6
          rwa[em4] at this
         ·rw[Mr λq=>by rw[q,hn] at z;c z];e&3r.fr a o z
        cases es:Di &1d.2 t fb &1d.1 0 τ (%5vj') with
        |nx σ4 h4=>
         rw[es] at P
         cases e4:h4[j']? with
         |none=>s[unl,e4] at P;e %j
         |some ob=>
          cases ob with
          |hole=>
           s[unl,e4] at P;intro F4 m4 H4 τ4 l4 R4 N4;g9;r⟨f1,P _ _ _ τ4 f3 f2 ?_⟩;a1
           e N4.unlock (l4.fr _ _ hF2)
          |_=>s[unl,e4] at P;e %j
        |rt v h4=>
         rw[es] at P
         cases e4:h4[j']? with
         |none=>s[unl,e4] at P;e %j
         |some ob=>
          cases ob with
          |hole=>
           s[unl,e4] at P;intro F4 m4 H4 b4 l4 R4 N4;g9;r⟨f1,P _ _ _ b4 f3 f2 ?_⟩;a1
           e N4.unlock (l4.fr _ _ hF2)
          |_=>s[unl,e4] at P;e %j
        |exc c fs=>rw[es] at P;e P
        |bad=>rw[es] at P;e P
    ·g
   ·g
  ·g
 ·g
end
end G
end L2
namespace L2
namespace G
open PySem PySem.Spec PyProof.Rows
variable [NC]
section
variable{g:Wd}{E:XK}{X:Cx}{a b e o:Expr}{fa fb fc:FE}{fl:FA}{pos pos' tpos p p2 apos cpos:Pos}{es:List Expr}{x:Str}
%dEI:W→W→%a→%p:=λx y h=>match x,&2r with
 |.kd kvs,%6t=>match Fb kvs k with
  |some v=>%8D
  |none=>.bad
 |_,_=>.bad
%dUp(neg:Bool):W→W→%a→%p:=λy x h=>match x,&2r with
 |.kd kvs,%6t=>&K(if neg then !(Fb kvs k).isSome else(Fb kvs k).isSome)
 |_,_=>.bad
%tiW{F:Hp}{m:Nat→Addr}{n:Nat}{κ:Type}:∀{xs:%8f} {vs:#P},xs.map (·.1)=vs.map (·.1)→RWs g F m n (xs.map (·.2)) (vs.map (·.2))→RK g F m n xs vs
 |[],[],_,_=>.nil
 |[],_::_,e,_=>by simp at e
 |_::_,[],e,_=>by simp at e
 |(k,x)::xs,(k',v)::vs,e,r=>by
  s[List.map_cons,List.cons.injEq] at e;o⟨e1,e2⟩:=e;h e1:k=k':=e1;subst e1
  cases r with
  |cons h t=>e &0O(iW e2 t)
%tMs(hg:g.K=X.K∧g.P=X.prog∧g.w=X.w)(ha:#Z)(hb:%3A)(hs:lB b:=by intro _ _;rfl):%R(%9ra b)(Am EI fa fb):=(mW ha hb hs).imp λσ H Q ⟨F,m,h,τ,R,N,P⟩=>
 ⟨F,m,h,τ,R,N,AD P λx h1 F1 m1 H1 v l R1 rx P1=>⟨F1,m1,h1,τ,R1,#d,AD P1 λy h2 F2 m2 H2 u l2 R2 ry P2=>by
   u EI at P2;q
   ·rename_i kvs k ek
    cases rx with
    |kd hk hm r=>
     rw[hg.1,hg.2.1,hg.2.2] at hk;q
     ·rename_i w ew;o⟨z,h1',h2'⟩:=((iW hm (r.mono l2)).val k).1 w ew;e⟨_,_,k,z,rfl,hk,Jv ry ek,h1',P2 F2 m2 H2 _ .refl R2 h2'⟩
     ·e ^F
   ·e ^F⟩⟩
%tsN(hg:g.K=X.K∧g.P=X.prog∧g.w=X.w){neg:Bool}{σ:St}{H:Hp}{Q:VK}(h:wE g E (Am (Up neg) fa fb) σ H Q):p0 X neg (wE g E fa) (wE g E fb) σ H Q:=by
 J;r⟨F,m,h,τ,R,N,AD P λy h1 F1 m1 H1 u l R1 ry P1=>⟨F1,m1,h1,τ,R1,#d,AD P1 λx h2 F2 m2 H2 v l2 R2 rx P2=>?_⟩⟩;u Up at P2;q
 ·rename_i kvs k ek
  cases rx with
  |kd hk hm r=>
   rw[hg.1,hg.2.1,hg.2.2] at hk;e⟨_,_,k,rfl,hk,Jv (ry.mono l2) ek,by rw[Qd (iW hm r)];e P2 F2 m2 H2 _ .refl R2 .bl⟩
 ·e ^F
%tkn(hg:g.K=X.K∧g.P=X.prog∧g.w=X.w)(ha:#Z)(hb:%3A)(hm:&2E.In=false:=by with_unfolding_all rfl):DT g E X (%7ta [.In] [b]) (^p(Up false)fa fb):=(Yc (qV ha hb) hm).imp λσ H Q h=>sN hg (wB h)
%tXg(hg:g.K=X.K∧g.P=X.prog∧g.w=X.w)(ha:#Z)(hb:%3A)(hm:&2E.NotIn=false:=by with_unfolding_all rfl):DT g E X (%7ta [.NotIn] [b]) (^p(Up true)fa fb):=(Yc (fE ha hb) hm).imp λσ H Q h=>sN hg (wB h)
%dintsOf:%m→Option %1L
 |[]=>some []
 |.int x::r=>(intsOf r).map (x::·)
 |_::_=>none
%tW9{F:Hp}{m:Nat→Addr}{n:Nat}:∀{xs:%m} {vs:%c} {ys:%1L},^eg F m n→intsOf xs=some ys→vs=ys.map V.int
 |_,_,_,.nil,e=>by c e;rfl
 |_,_,_,.cons (x:=x) (xs:=xs) h r,e=>by
  c h<;>first|(c e;done)|(
   u intsOf at e;l4;rw[W9 r q]
   rfl)
%dKw:%1L→Int
 |[]=>0
 |[x]=>x
 |x::r=>if Kw r<x then x else Kw r
%tnD:∀{ns:%1L} {m:Int},m∈ns→(∀y,y∈ns→y≤m)→m=Kw ns
 |[],_,h,_=>by c h
 |[x],m,h,_=>by simpa [Kw] using h
 |x::y::r,m,h,hm=>by
  h mx:Kw (x::y::r)=if Kw (y::r)<x then x else Kw (y::r):=rfl
  h top:∀l:%1L,l≠[]→Kw l∈l∧∀z∈l,z≤Kw l:=by
   intro l
   induction l with
   |nil=>intro q;e ^Uq
   |cons a t ih=>
    intro _
    cases t with
    |nil=>simp[Kw]
    |cons b t=>
     o⟨i1,i2⟩:=ih (by simp);h e:Kw (a::b::t)=if Kw (b::t)<a then a else Kw (b::t):=rfl;t;by_cases q:Kw (b::t)<a
     ·a5;r⟨by simp,λz hz=>?_⟩;rcases List.mem_cons.mp hz with rfl|hz
      ·e Int.le_refl _
      ·h:=i2 z hz;b
     ·R;r⟨List.mem_cons_of_mem _ i1,λz hz=>?_⟩;rcases List.mem_cons.mp hz with rfl|hz
      ·b
      ·e i2 z hz
  o⟨t1,t2⟩:=top (x::y::r) (by simp);h h1:=hm _ t1;h h2:=t2 m h;b
%tcR{F:Hp}{m:Nat→Addr}{n:Nat}{κ:Type}:∀{xs:%8f} {vs:#P},RK g F m n xs vs→RWs g F m n (xs.map (·.2)) (vs.map (·.2))
 |_,_,.nil=>.nil
 |_,_,%7B=>&0O(cR r)
%dZF:W→%a→%p:=λx h=>match(Ho x h).bind λkvs=>intsOf (kvs.map (·.2)) with
 |some (n::ns)=>%1F(Kw (n::ns))
 |_=>.bad
%trV(hc:X.calm=true)(hg:Gl X "max")(hm:X.mg "max"=none)(he:%4Se)(hbase:%4Ce"values"#u=#u:=by rfl)(hline:(apos.endLine==cpos.line)=true:=by rfl)
 (hs:%5M(Expr.Call (.Attribute e "values" apos) [] [] cpos)=[(false,#B(^Ye"values" []cpos))]:=by rfl):
 %R(%6H"max"p [^Ye"values" []cpos])(fUn ZF fa):=(mU hc hg hm he hbase hline hs).imp λσ H Q ⟨F,m,h,τ,R,N,P⟩=>
 ⟨F,m,h,τ,R,N,AD P λx h1 F1 m1 H1 v l R1 rx P1=>by
   u ZF at P1;S
   ·rename_i n ns e;o⟨kvs,e1,e2⟩:=Option.bind_eq_some_iff.mp e;o⟨i,vs,rfl,hi,rfl,q1,r1⟩:=Qi R1 rx e1;r⟨_,vs,n::ns,rfl,q1,W9 (cR r1) e2,by simp,λk hk hk2=>?_⟩;rw[nD hk hk2];e P1 F1 m1 H1 _ .refl R1 .int
   ·e #N⟩
%dOz:%m→%a→Res W
 |[x],h=>match Ho x h with
  |some kvs=>%0T(h++[.dct kvs])
  |none=>.bad
 |_,_=>.bad
%tgQ:AdN g Oz (λxs H Q=>∃a kvs,xs=[.ref a]∧&Q=%5p∧∀p,%0q=none→%1S(%Yp%3K)):=λF m h H xs vs Q E R r P=>by
 u Oz at P;f
 ·e3;f
  ·rename_i kvs e;o⟨i,vs,rfl,hi,rfl,q1,r1⟩:=Qi R rx e;r⟨_,vs,rfl,q1,λp hp=>?_⟩;h hl:(h++[O.dct kvs]).length=h.length+1:=by simp
   h:=P F (ext m h.length p) (%Yp%6d) (.ref (ext m h.length p h.length)) (by rw[hl];e .new) (R.fQ hp (.dct r1)) (.ref (by rw[hl];e %0s))
   rwa[Fv] at this
  ·g
 ·g
%dfJ:W→%m→%a→%p:=λx xs h=>match x,xs with
 |.ref i,[.ref k]=>match h[i]?,h[k]? with
  |some %3W,#gmore=>if i≠k∧kvs.length+more.length≤sizeLine then #t(h.set i (.dct (Yy kvs more))) else .bad
  |_,_=>.bad
 |_,_=>.bad
%dfDM(f:W→%m→%a→%p)(a:FE)(r:FA):FE:=λσ h=>(a σ h).bind λx h1=>match Ho x h1 with
 |some _=>(r σ h1).bind λxs h2=>f x xs h2
 |none=>.bad
%tkF(hK:g.K=X.K)(ho:%4So)(ha:DA g E X (e::es) fl)
 (hbase:%4Co"update"%0M=%0M:=by rfl)
 (hfew:((%6D(e::es)).all (λx=>!x.1)&&(%7Hcpos []).all (λx=>x.1.isSome)
   &&decide ((e::es).length+([]:&0G).length+(if([]:&0G).isEmpty then 0 else 1)<30))=true:=by rfl)
 (hline:(apos.endLine==cpos.line)=true:=by rfl) (hs:%3d=(false,#u)::%1m:=by rfl) (hplain:(%6Des).any (·.1)=false:=by rfl):
 %R(^Yo"update"(e::es)cpos)(fDM fJ fa fl):=(jr PySem.F.plainAttrs_dict PySem.F.slot_dict_update PySem.F.type_dict_update fS ho ha hbase hfew hline hs hplain).imp λσ H Q ⟨F,m,h,τ,R,N,P⟩=>⟨F,m,h,τ,R,N,AD P λx h1 F1 m1 H1 v l R1 rx P1=>by
 cases ed:Ho x h1 with
 |none=>s[ed] at P1;e #N
 |some kvs0=>
  s[ed] at P1;o⟨i,vs,rfl,hi,rfl,q1,r1⟩:=Qi R1 rx ed;r⟨.inr (%7O(%4i(.inl ⟨_,q1⟩))),F1,m1,h1,τ,R1,#d,AD P1 λxs h2 F2 m2 H2 us l2 R2 rxs P2=>?_⟩;h rx2:=%6a;u fJ at P2;q
  ·rename_i i' k ei;c ei;o⟨w,rfl,rk⟩:=rxs.inv1;q
   ·rename_i kvs more e1 e2;o⟨o1,u1,ev1,hi1,e1',g1,ro1⟩:=PU R2 rx2;o⟨o2,u2,ev2,hi2,e2',g2,ro2⟩:=PU R2 rk;rw[e1] at e1';c e1';rw[e2] at e2';c e2'
    cases ro1 with
    |dct d1=>
     cases ro2 with
     |dct d2=>
      q
      ·E;subst ev2;rw[ev1];r⟨_,_,_,_,rfl,rfl,λz=>hz.1 (R2.inj _ _ hi1 hi2 z),g1,g2,by rw[←d1.length,←d2.length];e hz.2,P2 F2 m2 _ .non &6L (R2.bg hi1 (by rw[e1];simp) (.dct (d2.merge d1))) .non⟩
      ·e ^F
   ·e ^F
  ·e ^F⟩
%dS6(n:Nat)(tbl:Str→Option FF)(a:FE)(r:FA):FE:=λσ h=>(a σ h).bind λv h1=>match v with
 |.fn x=>match tbl x with
  |some ff=>(r σ h1).bind λxs h2=>if xs.length=n then ff xs h2 else .bad
  |none=>.bad
 |_=>.bad
%too{k n:Nat}{tbl:Str→Option FF}{fds:Str→FuncData}{ps:Str→%u}(hx:XOk X E)(hr:D3 k X.A)
 (ht:∀x ff f,tbl x=some ff→g.fn x=some f→BC X.prog X.w X.K X.mg X.base (CXA X.prog X.w) k f (fds x) (ps x) (#Ln ff)∧%1iX.K f=true∧%0Y(fds x)(ps x) [])
 (hf:#Z) (ha:DA g E X (e::es) fl)
 (hc:#B(.Call a (e::es) [] pos)=(do callWith pos (←%5B) [] (%9o(e::es)) (%7Hpos [])):=by rfl)
 (he:%3d=(false,#u)::%1m:=by rfl) (hpl:%5x.any (·.1)=false:=by rfl):%R(.Call a (e::es) [] pos)(S6 n tbl fa fl):=by
 j;J;r Call_ (thn (hf pins s σ H (λx H1=>∃nm f ff,x=%9T∧tbl nm=some ff∧g.fn nm=some f∧wA g E fl σ H1 λvs H2=>wF g n ff (vs++[]) H2 Q E) I ⟨F,m,h,τ,R,N,AD P λx h1 F1 m1 H1 v l R1 rx P1=>?_⟩) λu s1 ⟨x,H1,I1,rx,nm,f,ff,ex,e1,e2,q⟩=>?_) hc
 ·cases rx with
  |fn hfn=>
   dsimp only at P1;S
   ·rename_i ff eff;r⟨_,_,ff,rfl,eff,hfn,F1,m1,h1,τ,R1,#d,AD P1 λxs h2 F2 m2 H2 vs l2 R2 rxs P2=>?_⟩;q
    ·rename_i en;e⟨F2,m2,h2,xs,R2,by rw[List.append_nil];e rxs,en,P2⟩
    ·e ^F
   ·e #N
  |_=>e #N
 ·P;obtain rfl:u=Value.ref f:=rx;o⟨Fk,kp,hb⟩:=ht nm ff f e1 e2;r &6BI.ok.mod.kin kp(thn (ha pos pins s1 σ H1 _ I1 q) λus s2 ⟨vs,H2,I2,r,q2⟩=>⟨I2.kIn,?_⟩)he hpl;e Yb (dvs:=[]) Fk hr hb .nil hx.passes I2 r q2
end
%tCV{CX:CXT}{P:Program}{w:World}{K:PySem.W.Frag}{mg:Str→&f}{base:Heap}{N:%u}{qual:Str}{scope:Scope}{f:Addr}{cd:Value}{A:Around}{outer:^y}{s:Shared}{H:Hp}{E:XK}:
 PassesOwn (model P w) (KH CX P w K mg base N qual scope f cd A outer s H E).A (KH CX P w K mg base N qual scope f cd A outer s H E).env (KH CX P w K mg base N qual scope f cd A outer s H E).xe:=PassesOwn.leaving
section
variable{g:Wd}{E:XK}{X:Cx}{a:Expr}{fa:FE}{x:Str}{i:Nat}{p pos:Pos}
%tAz(hN:X.N.Nodup)(hi:X.N[i]? =%v)(hx:&1Mx)(he:#Z)(hs:%7Ua(some (%7qp))X.env=%7c:=by rfl)(hf:%9O=true∨%8U=%0U:=by first|e %U|e %1j|assumption):
 DS g E X (&1g[%7qp]a) (AU i fa):=(qG hN hi hx he hs hf).imp λD σ H ⟨F,m,h,τ,R,N,P⟩=>⟨F,m,h,τ,R,N,CL P λy h1 F1 m1 H1 v l R1 rx P1=>P1 F1 m1 H1 &5l .refl R1 (#d.set i rx)⟩
%tYJ{op:Operator}{ti:TIp}{o:W→W→%a→%p}(hN:X.N.Nodup)(hi:X.N[i]? =%v)(hx:&1Mx)(ho:PIp X op ti)(ad:Ad2 g o ti)(he:#Z)(hf:%9O=true∨%8U=%0U:=by first|e %U|e %1j|assumption):
 DS g E X (.AugAssign (%7qp) op a pos) (SD i o fa):=(qJ hN hi hx he ho hf).imp λD σ H ⟨F,m,h,τ,R,N,P⟩=>by
 u SD fV at P;f
 ·rename_i v ev;o⟨u,e1,ru⟩:=N.2 i _ ev;e⟨u,e1,F,m,h,τ,R,N,CL P λy h1 F1 m1 H1 w l R1 ry P1=>ad F1 m1 h1 H1 _ y u w _ E R1 (ru.mono l) ry (CL P1 λz h2 F2 m2 H2 zz l2 R2 rz P2=>P2 F2 m2 H2 _ .refl R2 ((#d.mono l2).set i rz))⟩
 ·g
end
%tkh{P:Program}{w:World}{K:PySem.W.Frag}{mg:Str→&f}{base:Heap}{C f:Addr}{fd:FuncData}{x qual:Str}{st:Stmt}{p1 p2 p3 p4 p5 p6 p7 p8:Pos}(F:Fun K x qual st f fd)(cl:C7 K C f=true)(S:%y&2x&2x st)
 (hb:%4V=[.Assign [.Attribute (.Name "self" p1) "kind" p2] (.Name "kind" p3) p4,.Assign [.Attribute (.Name "self" p5) "place" p6] (.Name "place" p7) p8]):
 FnN P w K mg base 1 f fd &2x (spX C 2 λvs=>match vs with|[a,b]=>[("kind",a),("place",b)]|_=>[]):=by
 o4
 match ys,hl with
 |[y1,y2],_=>
  v3;h v1:Vis #e "kind":=(S.par "kind" (by simp)).elim .inl λz=>%8E;h v2:Vis #e "place":=(S.par "place" (by simp)).elim .inl λz=>%8E;rw[hb];r⟨_,Zu (jd (C:=C) (fI:=f) cl %U (SJ (i:=0) rfl v0) (SJ (i:=1) rfl v1) rfl) (Yd (qF (C:=C) (fI:=f) cl &3w (SJ (i:=0) rfl v0) (SJ (i:=2) rfl v2) rfl)),?_⟩;r⟨y1,rfl,#n,rfl,e,t,rfl,he,λd hd hde=>⟨y2,rfl,#n,rfl,e,t,d,_,rfl,?_,Bi,hde,by show 1<1000;decide,?_⟩⟩
  ·rw[Ay (Ne.symm hde),Bi]
  ·r k d _ hde ?_ Bi λb u eb hbe=>?_
   ·rw[Ay (Ne.symm hde),Ay (Ne.symm hde),Bi]
   ·h hbd:b≠d:=AN eb hd;rw[Ay hbd,Ay hbd,Ay hbe];e eb
%tPR{P:Program}{w:World}{K:PySem.W.Frag}{mg:Str→&f}{base:Heap}{C f:Addr}{fd:FuncData}{x qual:Str}{st:Stmt}{p1 p2 p3 p4 p5:Pos}{n:Int}{j:Nat}(F:Fun K x qual st f fd)(cl:C7 K C f=true)(S:%6qst)
 (hb:%4V=[.Assign [.Attribute (.Name "self" p1) "number" p2] (.UnaryOp .USub (%8q(.int n)p3) p4) p5]):
 FnN P w K mg base 1 f fd #C (spX C 0 λ_=>[("number",.int (-n))]):=by
 o4
 match ys,hl with
 |[],_=>
  v3;rw[hb];r⟨_,Yd (jd (C:=C) (fI:=f) cl (^brfl) (SJ (i:=0) rfl v0) (pA PK jm) rfl),?_⟩;r⟨n,rfl,#n,rfl,e,t,rfl,he,λd hd hde=>?_⟩;r k d _ hde ?_ Bi λb u eb hbe=>?_
  ·rw[Ay (Ne.symm hde),Bi]
  ·rw[Ay (AN eb hd),Ay hbe];e eb
%dAF:%m→Option #x
 |[.int a,.int b]=>some [("kind",a),("place",b)]
 |_=>none
%tAS:Mks 2 AF (λvs=>match vs with|[a,b]=>[("kind",a),("place",b)]|_=>[]) where
 len:=λxs fs e=>by
  u AF at e;z
  ·a
  ·d
 ok:=λg F m k xs vs fs r e=>by
  u AF at e;z
  ·d;o⟨v,u,rfl,r1,r2⟩:=r.inv2;c r1;c r2;a
  ·d
%dmkRef(n:Int):%m→Option #x
 |[]=>some &6F
 |_=>none
%tc4{n:Int}:Mks 0 (mkRef n) (λ_=>[("number",.int n)]) where
 len:=λxs fs e=>by
  u mkRef at e;z
  ·a
  ·d
 ok:=λg F m k xs vs fs r e=>by
  u mkRef at e;z
  ·d;a
  ·d
%dvO(o:W→%a→%p):Prop:=∀x h z h',o x h=^Oz→h'=h∧∀g,o x (h++g)=.ok z (h++g)
%dlA(o:W→W→%a→%p):Prop:=∀x y h z h',o x y h=^Oz→h'=h∧∀g,o x y (h++g)=.ok z (h++g)
%duQ(o:%m→%a→%p):Prop:=∀xs h z h',o xs h=^Oz→h'=h∧∀g,o xs (h++g)=.ok z (h++g)
%doV(f:FA):Prop:=∀σ h y h',f σ h=^Oy→h'=h∧∀g,f σ (h++g)=.ok y (h++g)
%tZt(v:W):Pur (fC v):=λσ h y h' e=>by
 u fC at e ⊢;d;e⟨rfl,λ_=>rfl⟩
%tNt(i:Nat):Pur (fV i):=λσ h y h' e=>by
 u fV at e ⊢;z
 ·rename_i v ev;d;e⟨rfl,λg=>rfl⟩
 ·d
%tCZ{α β:Type}{r:%4h}{k:α→%a→%8w}{z:β}{h':%a}(e:%8j=^Oz):∃a h1,r=^na∧k a h1=^Oz:=by
 cases r with
 |ok a h1=>e⟨a,h1,rfl,e⟩
 |exc c fs=>c e
 |bad=>c e
%tqC{o:W→%a→%p}{a:FE}(po:vO o)(pa:Pur a):Pur (fUn o a):=λσ h y h' e=>by
 h0;o⟨rfl,g2⟩:=po _ _ _ _ e2;e⟨rfl,λg=>by show(a σ (_++g)).bind o=_;rw[g1 g];e g2 g⟩
%tUw{f:Str}{a:FE}(pa:Pur a):Pur (AB f a):=qC (o:=BN f) (λx h z h' e=>by
 cases x with
 |ref i=>
  cases q:h[i]? with
  |none=>s[BN,q] at e;c e
  |some ob=>
   have hi:i<h.length:=&5J.1
   cases ob with
   |ins c fs=>
    s[BN,q] at e
    cases ql:%3N with
    |none=>rw[ql] at e;c e
    |some v=>
     rw[ql] at e;d
     e⟨rfl,λg=>by s[BN,&4o,q,ql]⟩
   |_=>s[BN,q] at e;c e
 |_=>c e) pa
%tKc{o:W→W→%a→%p}{a b:FE}(po:lA o)(pa:Pur a)(pb:Pur b):Pur (Am o a b):=λσ h y h' e=>by
 h0;o⟨y,h2,e3,e4⟩:=CZ e2;o⟨rfl,g2⟩:=pb _ _ _ _ e3;o⟨rfl,g3⟩:=po _ _ _ _ _ e4;e⟨rfl,λg=>by show(a σ (_++g)).bind _=_;rw[g1 g];show(b σ (_++g)).bind _=_;rw[g2 g];e g3 g⟩
%tmB:oV Ad:=λσ h y h' e=>by c e;e⟨rfl,λ_=>rfl⟩
%tjb{a:FE}{r:FA}(pa:Pur a)(pr:oV r):oV (Aa a r):=λσ h y h' e=>by
 h0;o⟨xs,h2,e3,e4⟩:=CZ e2;o⟨rfl,g2⟩:=pr _ _ _ _ e3;c e4;e⟨rfl,λg=>by show(a σ (_++g)).bind _=_;rw[g1 g];show(r σ (_++g)).bind _=_;rw[g2 g];rfl⟩
%ttY{o:%m→%a→%p}{a:FA}(po:uQ o)(pa:oV a):Pur (fN o a):=λσ h y h' e=>by
 h0;o⟨rfl,g2⟩:=po _ _ _ _ e2;e⟨rfl,λg=>by show(a σ (_++g)).bind _=_;rw[g1 g];e g2 g⟩
%tja{f:Int→Int→W}:lA (oI f):=λx y h z h' e=>by
 c x<;>first|(c e;done)|(c y<;>first|(c e;done)|(c e;e⟨rfl,λ_=>rfl⟩))
%tcU{c:Int→Int→Bool}{f:Int→Int→W}:lA (oIC c f):=λx y h z h' e=>by
 c x<;>first|(c e;done)|(c y<;>first|(c e;done)|(
  u oIC at e;dsimp only at e;z
  ·T;d;e⟨rfl,λ_=>by u oIC;dsimp only;rw[if_pos q]⟩
  ·c e))
%ti9{neg:Bool}:lA (Vf neg):=λx y h z h' e=>by
 c x<;>first|(c e;done)|(c y<;>first|(c e;done)|(
  rename_i x y;u Vf at e;dsimp only at e;z
  ·rename_i c q;d;e⟨rfl,λ_=>by u Vf;dsimp only;rw[q]⟩
  ·c e))
%tbT{x:W}{h g:%a}{xs:%m}(e:AH x h=%3k):AH x (h++g)=%3k:=by
 cases x with
 |ref i=>
  cases q:h[i]? with
  |none=>s[AH,q] at e;c e
  |some ob=>
   have hi:i<h.length:=&5J.1;s[AH,q] at e;s[AH,&4o,q]
   e e
 |lst ys=>e e
 |arg ys=>e e
 |_=>c e
%tgA{x:W}{h g:%a}{xs:&u}(e:Ho x h=%3k):Ho x (h++g)=%3k:=by
 cases x with
 |ref i=>
  cases q:h[i]? with
  |none=>s[Ho,q] at e;c e
  |some ob=>
   have hi:i<h.length:=&5J.1;s[Ho,q] at e;s[Ho,&4o,q]
   e e
 |_=>c e
%tSI:lA Bf:=λx y h z h' e=>by
 u Bf at e;z
 ·rename_i kvs k e1 e2;z
  ·rename_i v ev;d;e⟨rfl,λg=>by u Bf;rw[gA e1,e2];dsimp only;rw[ev]⟩
  ·d
 ·d
%ti8:∀{s:Str} {y:W} {h:%a} {z:W} {h':%a},oIx (.str s) y h=^Oz→h'=h∧∀g,oIx (.str s) y (h++g)=.ok z (h++g):=by
 intro s y h z h' e
 c y<;>first|(c e;done)|(
  u oIx at e ⊢;dsimp only at e ⊢;z
  ·E;z
   ·rename_i c ec;d;e⟨rfl,λg=>by rw[if_pos hz]⟩
   ·d
  ·c e)
%tmC{s:Str}{b:FE}(pb:Pur b):Pur (%3x(%Cs)b):=λσ h y h' e=>by
 c5;c e1;o⟨y,h2,e3,e4⟩:=CZ e2;o⟨rfl,g2⟩:=pb _ _ _ _ e3;o⟨rfl,g3⟩:=i8 e4;e⟨rfl,λg=>by show(b σ (_++g)).bind _=_;rw[g2 g];e g3 g⟩
%ti6:uQ Yu:=λxs h z h' e=>by
 u Yu at e;z
 ·z
  ·T;d;e⟨rfl,λ_=>by u Yu;dsimp only;rw[if_pos q]⟩
  ·d
 ·d
%ti7{a:FE}:lz (iS a):=λσ h it h' e j g r er=>by
 c5;c x<;>first|(c e2;done)|(c e2;e er)
%tqA{a:FE}:lz (iT a):=λσ h it h' e j g r er=>by
 c5;split at e2
 ·c e2;e er
 ·c e2
%tmz{a:FA}:lz (iR1 a):=λσ h it h' e j g r er=>by
 c5;split at e2
 ·split at e2
  ·c e2;e er
  ·c e2
 ·c e2
%tqB{a:FE}:lz (iL a):=λσ h it h' e j g r er=>by
 c5
 cases q:AH x h1 with
 |none=>rw[q] at e2;c e2
 |some xs=>
  rw[q] at e2;c e2;h er:(AH x _).map (λys=>ys[j]?)=some r:=er;o⟨ys,e3,e4⟩:=Option.map_eq_some_iff.mp er;show(AH x _).map (λys=>ys[j]?)=some r;rw[bT e3,Option.map_some,e4]
end G
end L2
namespace L2
namespace G
open PySem PySem.Spec PyProof.Rows
%dcq(i j:Int):Bool:=decide (-(2^64)<i)&&decide (i<2^64)
%tou{i j:Int}(h:cq i j=true):oY i j:=by
 u cq at h
 rw[Bool.and_eq_true,decide_eq_true_eq,decide_eq_true_eq] at h
 e %9N
%dIZ(kvs:&u)(y:W):IT:=(kvs.length,λi h=>match kvs[i]? with
 |none=>%8e
 |some kv=>match AH y h with
  |some ys=>match ys[i]? with
   |some v=>some (%3J[kW kv.1,v])
   |none=>none
  |none=>none)
%dLY(fx fy:FE)(t:TGA)(b:FS):FS:=λσ h=>match fx σ h with
 |.ok &g _=>match h[j]? with
  |some %3W=>match fx σ (%5vj),fy σ (%5vj) with
   |.ok (.ref j') _,.ok y _=>if j'=j then match AH y (%5vj) with
     |some _=>unl j kvs (Di (IZ kvs y).2 t b (IZ kvs y).1 0 σ (%5vj))
     |none=>.bad
    else .bad
   |_,_=>.bad
  |_=>.bad
 |_=>.bad
end G
end L2
namespace JU
open PySem PySem.Spec PyProof.Rows L2 L2.G
%dtop(i:Nat):Stmt:=PySem.Challenge.pw_tablerules_s01_judge.main.body.getD i (.Pass ⟨0,0,0,0⟩)
abbrev O4:Stmt:=top 8
abbrev QI:Stmt:=top 9
abbrev Nb:Stmt:=top 10
abbrev JN:Stmt:=top 11
abbrev MD:Stmt:=top 12
abbrev OZ:Stmt:=top 13
abbrev JW:Stmt:=^I79 0
abbrev O5:Stmt:=top 69
abbrev Hf:Stmt:=^I79 1
abbrev JZ:Stmt:=^I25 0
abbrev Nc:Stmt:=top 70
abbrev K3:Stmt:=^I68 0
abbrev Tp:Stmt:=top 71
abbrev Tr:Stmt:=top 72
abbrev K1:Stmt:=^I68 1
abbrev QK:Stmt:=^I68 4
abbrev QM:Stmt:=^I68 3
abbrev Qt:Stmt:=top 73
abbrev UO:Stmt:=top 33
abbrev JY:Stmt:=^I68 7
abbrev K0:Stmt:=^I68 8
abbrev MC:Stmt:=top 34
abbrev KY:Stmt:=top 35
abbrev Iw:Stmt:=^I68 11
abbrev KZ:Stmt:=top 81
abbrev Je:Stmt:=^I68 9
abbrev OY:Stmt:=top 57
abbrev JX:Stmt:=^I68 5
abbrev Iz:Stmt:=^I56 0
abbrev Mz:Stmt:=top 58
abbrev M9:Stmt:=top 82
abbrev ME:Stmt:=^I68 2
abbrev QG:Stmt:=top 47
abbrev JS:Stmt:=top 45
abbrev Tq:Stmt:=top 48
abbrev JQ:Stmt:=top 36
abbrev Jc:Stmt:=top 46
abbrev Jd:Stmt:=top 49
abbrev Iy:Stmt:=^I68 10
abbrev JO:Stmt:=top 59
abbrev JP:Stmt:=top 60
abbrev M6:Stmt:=top 61
abbrev MA:Stmt:=top 62
abbrev Na:Stmt:=top 80
abbrev Qw:Stmt:=top 83
abbrev Nd:Stmt:=^I68 6
abbrev O3:Stmt:=top 84
abbrev GC:Stmt:=^I88 0
abbrev Iu:Stmt:=^I86 0
abbrev JV:Stmt:=^I111 0
abbrev QB:Stmt:=top 112
abbrev OX:Stmt:=top 113
abbrev M7:Stmt:=top 114
abbrev Qx:Stmt:=top 115
abbrev QC:Stmt:=top 116
abbrev He:Stmt:=top 117
abbrev Qz:Stmt:=top 118
abbrev M8:Stmt:=top 119
abbrev Jf:Stmt:=^I68 12
abbrev Qy:Stmt:=top 120
abbrev O0:Stmt:=top 122
abbrev Iv:Stmt:=^I126 0
abbrev K4:Stmt:=^I93 0
abbrev Jg:Stmt:=^I93 1
abbrev Qv:Stmt:=top 94
abbrev Qu:Stmt:=top 95
abbrev QF:Stmt:=top 96
abbrev FV:Stmt:=^I87 0
abbrev MB:Stmt:=top 127
abbrev QJ:Stmt:=top 130
abbrev Za:Stmt:=top 131
abbrev fuel:Nat:=100000
%dSi:FS:=(Bz (fLc (iS &Z) 1 (&1nYu 1)))
%dIV:FF:=BY 2 Si
%dUe:FS:=(Bz (Am Lg (#UIV 0) (Am jy &5n (Am (oI λi j=>%8b) (&R12) %1q))))
%dCk:FF:=BY 1 Ue
%dKJ:FS:=(Bz (fLc (iR1 (#b1)) 2 (Am (oI λi j=>.int (Builtin.bitAnd i j)) (%6J(oIC (λ_ j=>decide (0≤j)) λi j=>.int (i/2^j.toNat))(%4z(oIC cq λi j=>.int (i*j))(&R8))) (&R255))))
%dBs:FF:=BY 3 KJ
%dHG:FS:=(%B1%1w(LY (Am Bf %0e %6V) &4N (tg2 2 3) (Ag (%4jB9(#UCk 2)) (%4jB9(%3O2 Bs 3(%1D4)))))%5t)
%dCf:FF:=BY 4 HG
%dJE:FS:=(%B1(fN El (Aa (%X"event") (Aa (%X"mode") (Aa (%8l&6G) %5w))))(%0P(iL &6G)2(%4FB9&M(#b2)))%5t)
%dDp:FF:=BY 3 JE
%dMt:FS:=(%B1(%1ARo(%5o[.int 84,.int 82,%6r,#r]))(%4jB9(%4r1 Ck(%X"name")))(&e(%4jB9(fLc (%8H[%8c,%7X,%1h,%0w,%0d]) 2 %7x))(%4FBq&M%5w)(%3p(%4jB9(Ax 2 Bs (Aa &3I (%1D2))))(%4jB9(#UCf 0))(%0P(%8H[%1h,%0w,%0d])2(Nq (%4zBf%0e) &0b (%4jB9(#UCk 4))))(%0P(iL %7L)3(%4jB9(#UDp 3)))%5t)))
%dEh:FF:=BY 5 Mt
%dHI:FS:=(Ag (&p"table"(%3u"table")) (&e(&p"name"(%C""))(&p"last_sort"%1G)(%3p(&p"counts"(Hn [((%C"rules"),&W),((%C"var"),&W),((%C"mine"),&W),((%C"timer"),&W),(&6N,&W),(&0H,&W),((%C"on"),&W)]))(&p"names"(%1AOz(%3u"names")))(AI (fDM fJ %0e (%1Z(Hn [(%6V,Gb),((%C"timer"),Gb),(&6N,Gb),(&0H,Gb)]))))(&p"starts"%1w)(&p"handlers"%1w))))
%dCF:FF:=BY 2 HI
%dSj:FS:=(%B1%1w(AU 2 &W)(&e(Et (iE (#b0)) (tg2 3 4) (#G(%0u4(&R10))(Ag (%4jBq(fN oTup (%1g2 3))) (AU 2 (^h(oI λi j=>#c)&J)))))(#G(&l(oI λi j=>%4w)2%1q)(%4jBq(fN oTup (%4k2%1q))))%5t))
%dCs:FF:=BY 5 Sj
%dFz:FS:=(Bz (ah (Am (oI λi j=>^S) &3I &W) (Am &1k (%8l(AB "actions" (%3x%7L(fUn (oU λi=>%9v) ^T)))) &W)))
%dBU:FF:=BY 1 Fz
%dKL:FS:=(#F3%1n(%0P(iR2 (%1g1 2))4(#F5(%3x&Z%0l)(&e(%5Q(fOr (&l(oI λi j=>%4w)5%1n) (&l(oI λi j=>^S)5(&R126)))AF 2(#b4))(%5Q(Us (%0u5%1n) (fOr (%0u3%1n) (%0A(^h(oI λi j=>#c)%0l)&j)))AF 2(#b4))(AU 3 (fV 5))))))
%dGa:FF:=BY 6 KL
%dMW:FS:=(Ag (&p"words"&M) (&e(&p"places"&j)(&p"end"&J)(&p"taken"&W)))
%dCt:FF:=BY 4 MW
%dVT:FS:=(Bz (fM1 WX (%C"") (fLc (iL &Z) 1 (%3x(%C" !\"#$\n&'()*+,-./0123456789:;<=>?@ABCDEFGHIJKLMNOPQRSTUVWXYZ[\\]^_`abcdefghijklmnopqrstuvwxyz{|}~")(Am (oI λi j=>%8b) &M %1n)))))
%dJz:FF:=BY 2 VT
%dQl:FS:=(#F2(%6s&M)(%B3(^hoIx&M)(%5Q(%0u3%1q)AF 1(#b3))(&e(AI (%1c3 Ga 0 2 3))(%0O(%0u2&J)(Cu "Line" 4 Ct (Aa (%4UAd) (%1s(%4UAd)3))))(%B4(fM1 Ny (%4r1 Jz(fSl ZD &Z (MS &j) (MS &J))) (%C" "))(AU 5 %1w)(%B6&j(%0P(iL %0l)7(Ag (%4FBq(fV 5)(#b6)) (SD 6 (oI λi j=>#c) (^h(oI λi j=>#c)(%4c7)))))(Bz (Cu "Line" 4 Ct (%8N4(%1g5 3)))))))))
%dBF:FF:=BY 8 Ql
%dMV:FS:=(Bz (Am (oI λi j=>%4w) &4S (%8l(%X"words"))))
%dBg:FF:=BY 1 MV
%dOt:FS:=(&e(%0W(VI (fB (^Z"has_more"1 Bg Ad)))3(%X"end"))(Jo "taken" (oI λi j=>#c) &Z ^T)(Bz (%3x(%X"words")(^h(oI λi j=>%8b)&4S))))
%dBw:FF:=BY 1 Ot
%dUg:FS:=(Bz (%3x(%X"places")(^h(oI λi j=>%8b)&4S)))
%dAv:FF:=BY 1 Ug
%dTZ:FS:=(#F3(^Z"take"1 Bw Ad)(&e(sIf (&l&0N 2%1G) (AU 4 (fSl ZC &M fNo (MS ^T))) (AU 4 (fSl ZC &M (MS (fN jA (Aa (fTM Tz &M (#b2)) (%1D1)))) fNo)))(%0W(&l(Uq true)3%0l)3(^Z"spot"1 Av Ad))%3U))
%dCB:FF:=BY 5 TZ
%dXz:FS:=(Ag (%0O(fOr (^p(oI λi j=>^S)%1q(&R12)) (^p(Vf true)(%6s&Z)(%C"abcdefghijklmnopqrstuvwxyz")))(fC (.bl false))) (Bz (%1A(fP false)(fLc (iS &Z) 1 (Am (Vf false) &M (%C"abcdefghijklmnopqrstuvwxyz0123456789_"))))))
%dLy:FF:=BY 2 Xz
%dHK:FS:=(%B1(^Z"take"1 Bw Ad)(%0W(VI (fB (#ULy 1)))4(^Z"spot"1 Av Ad))%5t)
%dBx:FF:=BY 2 HK
%dGj:FS:=(#F3(^Z"take_name"1 Bx Ad)(&e(%0W(&l(Uq false)3&j)4(^Z"spot"1 Av Ad))(%0W(&l%7j 3&M)5(^Z"spot"1 Av Ad))%3U))
%dBy:FF:=BY 4 Gj
%dOo:FS:=(&e(%0O(fOr (VI (fB (fM0 fL &Z))) (^p(oI λi j=>^S)%1q(&R10)))%1G)(%0O(Us (fB (fM1 Oy &Z (%C"0"))) (^p(oEq true)&Z(%C"0")))%1G)(Bz (&1njC 0)))
%dEB:FF:=BY 1 Oo
%dMT:FS:=(Ag (#G(fB (fM1 Oy &Z (%C"-")))(%B1(%4r1 EB(fSl fK &Z (MS ^T) fNo))(%0O(fOr (&l&0N 1%1G) (fOr (%0u1&W) (^p(oI λi j=>%4w)(fUn (oU λi=>%9v) &M)(&R(-2147483648)))))%1G)(Bz (fUn (oU λi=>%9v) &M)))) (%B1(#UEB 0)(%0O(fOr (&l&0N 1%1G) (&l(oI λi j=>^S)1(&R2147483647)))%1G)%5t))
%dD7:FF:=BY 2 MT
%dGA:FS:=(%B1(%4r1 D7(^Z"take"1 Bw Ad))(%0W(&l&0N 1%1G)4(^Z"spot"1 Av Ad))%5t)
%dDX:FF:=BY 2 GA
%dMU:FS:=(#F3(Am Bf %0e %6V)(%B4(%9J3 By 1(%4k3(%5o[.str "left",.str "in",.str "closed"])))(&0oBq&4N(&E"take_signed"1 DX 1 Ad))(GJ &J %0l (Am (oI λi j=>#c) (%6zEI [(.inr "var",#r),(.inr "mine",%9G)]) %7x))))
%dD8:FF:=BY 5 MU
%dFi:FS:=(%B2(^Z"take_name"1 Bx Ad)(%0W(&l(Ip true)2&M)6(^Z"spot"1 Av Ad))(Bz (%4zBf&M)))
%dAl:FF:=BY 3 Fi
%dIW:FS:=(#F2(&E"take"1 Bw 1 Ad)(&e(#Y(&l(Up true)2(fC (.kd [(.inr "closed",(%1I0)),(.inr "opened",(%1I64)),(.inr "ended",(%6n128)),(.inr "gained",(%4d144)),(.inr "parted",(%4d152)),(.inr "stuck",(%4d160)),(.inr "coin",(#l168)),(.inr "start",(#l169)),(.inr "warning",(#l170)),(.inr "tilt",(#l171)),(.inr "ball",(#l172)),(.inr "lost",(#l173)),(.inr "back",(#l174)),(.inr "sent",(&Y192%0w))])))3 1 Av 1 Ad)(AU 3 (%6s(%6zEI [(.inr "closed",(%1I0)),(.inr "opened",(%1I64)),(.inr "ended",(%6n128)),(.inr "gained",(%4d144)),(.inr "parted",(%4d152)),(.inr "stuck",(%4d160)),(.inr "coin",(#l168)),(.inr "start",(#l169)),(.inr "warning",(#l170)),(.inr "tilt",(#l171)),(.inr "ball",(#l172)),(.inr "lost",(#l173)),(.inr "back",(#l174)),(.inr "sent",(&Y192%0w))])))(%B4(^hoIx(%6zEI [(.inr "closed",(%1I0)),(.inr "opened",(%1I64)),(.inr "ended",(%6n128)),(.inr "gained",(%4d144)),(.inr "parted",(%4d152)),(.inr "stuck",(%4d160)),(.inr "coin",(#l168)),(.inr "start",(#l169)),(.inr "warning",(#l170)),(.inr "tilt",(#l171)),(.inr "ball",(#l172)),(.inr "lost",(#l173)),(.inr "back",(#l174)),(.inr "sent",(&Y192%0w))]))(#G(&l&0N 4%1G)%3U)(Bz (Am (oI λi j=>#c) &J (%4J2 Al 1(%6JBf%0l)))))))
%dGX:FF:=BY 5 IW
%dHJ:FS:=(%0W(^p(oEq true)(^Z"take"1 Bw Ad)&M)3(^Z"spot"1 Av Ad))
%dAA:FF:=BY 2 HJ
%dJG:FS:=(&e(&p"event"&M)(&p"mode"&j)(&p"actions"%1w))
%dCb:FF:=BY 3 JG
%dOf:FS:=(#F2(#v2 GX 0 1)(&e(%0O(VI (fB (%8n1 Bg 1 Ad)))(Cu "Handler" 3 Cb (%8N2%5w)))(%1U2 AA 1"in")(Bz (Cu "Handler" 3 Cb (%4k2(^h(oI λi j=>#c)(%4J2 Al 1(%6JBf&0H))))))))
%dFu:FF:=BY 3 Of
%dHQ:FS:=(sIf (^X2"rules") (&p"name"(&E"take_name"1 Bx 1 Ad)) (sIf (fOr (^X2"var") (^X2"mine")) (AI (%1c3 D8 0 1 2)) (sIf (^X2"on") (&0oBq%7L(Ax 2 Fu (%1s%0e 1))) (#F3(%9J3 By 1(%1R(%4zBf%0e)&4h))(GJ (%4zBf%0e) &J %7x)))))
%dBr:FF:=BY 4 HQ
%dJF:FS:=(Bz (ah (^Z"has_more"1 Bg Ad) (Am &1k (%3x(%X"words")&4S) &M)))
%dAY:FF:=BY 2 JF
%dGI:FS:=(%3p(%0O(^X2"!")(%4U(%1D5)))(%0O(&l(Uq false)2(%5o[.str "+",.str "-",.str "*",.str "/",&5B,.str "<",.str "=",.str "&",.str "|"]))(%1AoLst(Am (oI λi j=>#c) (&R6) (fTM Tz (%5o[.str "+",.str "-",.str "*",.str "/",&5B,.str "<",.str "=",.str "&",.str "|"]) (#b2)))))(#G(&l(Up false)2(fC (.kd [(.inr "left",(%6n2)),(.inr "in",(&Y3%0d)),(.inr "closed",(%1I4))])))(%B3(%6s(%6zEI [(.inr "left",(%6n2)),(.inr "in",(&Y3%0d)),(.inr "closed",(%1I4))]))(AU 4 (^hoIx(%6zEI [(.inr "left",(%6n2)),(.inr "in",(&Y3%0d)),(.inr "closed",(%1I4))])))(Bz (%4U(%4k3(%4J2 Al 1(%6JBf%0l)))))))(%0O(&l%7j 2(%6JBf%6V))(%4U(%8P1(%1Z(%4zBf(%6JBf%6V))))))(Bz (Am Lg &5n (Ax 2 Bs (Aa (#UD7 2) (%1D4))))))
%dBS:FF:=BY 5 GI
%dLJ:FS:=(Ag (%0O(fOr (^X1"!") (fOr (&l(Uq false)1(%5o[.str "+",.str "-",.str "*",.str "/",&5B,.str "<",.str "=",.str "&",.str "|"])) (&l(Up false)1(fC (.kd [(.inr "left",(%6n2)),(.inr "in",(&Y3%0d)),(.inr "closed",(%1I4))])))))(fC &4f)) (Bz (rL (Am %7j &M (%6JBf%6V)) (Am (oIs true) (#UD7 1) %1G))))
%dDD:FF:=BY 2 LJ
%dVU:FS:=(Ag (%0O(^p(oI λi j=>.bl (decide (j≤i)))&Z(&R6))(&R2)) (Bz (rM (%0A&Z(&R5)) ^T &W)))
%dGy:FF:=BY 1 VU
%dLI:FS:=(Ag (%0O(fB (fM1 Oy &Z (%C"-")))(fM0 fL (fSl fK &Z (MS ^T) fNo))) (Bz (fM0 fL &Z)))
%dFU:FF:=BY 1 LI
%dKn:FS:=(&e(%0O(fB (#UFU 0))(&R4))(%0O(fB (#ULy 0))(&R6))(Bz (&R3)))
%dDt:FF:=BY 1 Kn
%dHd:FS:=(%B2%1w(AU 3 &W)(%B4^T(Dv (&l(oI λi j=>^S)4&W) (%B5(&E"take"1 Bw 1 Ad)(#G(VI (fB (#v2 DD 0 5)))(AQ "Fault" AF (%1R(#UDt 5)(&E"spot"1 Av 1 Ad))))(&e(#Y(%0u3(&R63))10 1 Av 1 Ad)(SD 3 (oI λi j=>#c) ^T)(%B6(%1c3 BS 0 1 5)(%4FB9&j(#b6))(SD 4 (oI λi j=>#c) (^h(oI λi j=>%8b)(%4r1 Gy(%6s(fV 6)))))))) fuel)(Bz &j)))
%dCP:FF:=BY 7 Hd
%dGB:FS:=(%B3(%4r1 EB(^Z"take"1 Bw Ad))(%0W(fOr (&l&0N 3%1G) (fOr (&l(oI λi j=>%4w)3&M) (&l(oI λi j=>^S)3&j)))4(^Z"spot"1 Av Ad))%3U)
%dAR:FF:=BY 4 GB
%dHH:FS:=(%B3(%4J2 Al 1(Am Bf %0e (%C"coil")))(#Y(Us (fB &j) (&l(Ip true)3(AB "holding" (%X"table"))))7 1 Av 1 Ad)(%B4(%5Y3 AR 1(%6A1 1023))(#Y(&l(oI λi j=>^S)4(Am Bf (AB "mosts" (%X"table")) &J))7 1 Av 1 Ad)(Bz (Am Lg (&1noLst 3) (%3O2 Bs 4(%1D2))))))
%dDc:FF:=BY 5 HH
%dDF:FS:=(Ag (%0O(^X2"expression")(Ax 2 CP (%1s%0e 1))) (&e(%0O(^X2"level")(%1AoLst(%5Y3 AR 1(%6A0 15))))(%0O(fOr (^X2"fired") (^X2"held"))(%3O3 Dc 0(%4k1(Am &1k &j (%C"held")))))(Bz (%1AoLst(%4J2 Al 1(%4zBf%0e))))))
%dA8:FF:=BY 3 DF
%dHP:FS:=(%B2(&E"take"1 Bw 1 Ad)(#Y(&l(Up true)2(fC (.kd [(.inr "score",(&5c0)),(.inr "set",(&Y1&3J)),(.inr "fire",(&T2"fired")),(.inr "hold",(&T3"held")),(.inr "release",(&T4"coil")),(.inr "show",(&Y5(%4t&3s%5l))),(.inr "hide",(&T6"level")),(.inr "light",(%8p7)),(.inr "dark",(%8p8)),(.inr "begin",(%8r9)),(.inr "finish",(%8r10)),(.inr "run",(&Y11&3N)),(.inr "halt",(&T12"timer")),(.inr "send",(&T13"signal")),(.inr "eject",(&T14"device")),(.inr "stop",(&Y15&2s))])))3 1 Av 1 Ad)(%B3(%1AEl(%6s(%6zEI [(.inr "score",(&5c0)),(.inr "set",(&Y1&3J)),(.inr "fire",(&T2"fired")),(.inr "hold",(&T3"held")),(.inr "release",(&T4"coil")),(.inr "show",(&Y5(%4t&3s%5l))),(.inr "hide",(&T6"level")),(.inr "light",(%8p7)),(.inr "dark",(%8p8)),(.inr "begin",(%8r9)),(.inr "finish",(%8r10)),(.inr "run",(&Y11&3N)),(.inr "halt",(&T12"timer")),(.inr "send",(&T13"signal")),(.inr "eject",(&T14"device")),(.inr "stop",(&Y15&2s))])))(%0P(iT (^hoIx(%6zEI [(.inr "score",(&5c0)),(.inr "set",(&Y1&3J)),(.inr "fire",(&T2"fired")),(.inr "hold",(&T3"held")),(.inr "release",(&T4"coil")),(.inr "show",(&Y5(%4t&3s%5l))),(.inr "hide",(&T6"level")),(.inr "light",(%8p7)),(.inr "dark",(%8p8)),(.inr "begin",(%8r9)),(.inr "finish",(%8r10)),(.inr "run",(&Y11&3N)),(.inr "halt",(&T12"timer")),(.inr "send",(&T13"signal")),(.inr "eject",(&T14"device")),(.inr "stop",(&Y15&2s))])))4(&0oB9&J(%1c3 A8 0 1 4)))%3U))
%dEn:FF:=BY 5 HP
%dOg:FS:=(%B2(Ax 2 CP (%1s%0e 1))(%1U2 AA 1"do")(Bz (Am Lg (%4zLg(%4U(%1D1))) (#v2 En 0 1))))
%dGW:FF:=BY 3 Og
%dGf:FS:=(#F2(&E"take"1 Bw 1 Ad)(&e(#Y(fOr (%0A&3I&W) (%0A(%8l(AB "actions" (%3x%7L(fUn (oU λi=>%9v) ^T))))%1n))3 1 Av 1 Ad)(sIf (^X2"when") (AU 3 (#v2 GW 0 1)) (AU 3 (Am Lg &5n (#v2 En 0 1))))(%4FBq(AB "actions" (%3x%7L(fUn (oU λi=>%9v) ^T)))(#b3))))
%dB4:FF:=BY 4 Gf
%dOj:FS:=(Ag (#G(fOr (fB (%3X2 AY 1(%C"do"))) (fB (%3X2 AY 1(%C"when"))))(Ag (AI (#v2 B4 0 1)) Tv)) (%B2(%3O3 CB 1(%1R(%5o[%3L,%8c,%7X,%1h,%0w,%0d,%3R])(%X"last_sort")))(#Y(fOr (%0A%7x(%6zEI [(.inr "rules",%6r),(.inr "var",%9G),(.inr "mine",(.int 32)),(.inr "timer",(.int 16)),(.inr "signal",%9G),(.inr "mode",(.int 15)),(.inr "on",(.int 256))])) (fB (Ao "Rules" "wants_action" 1 BU &Z Ad)))3 1 Av 1 Ad)(&e(AI (%1c3 Br 0 1 2))(X0 (oI λi j=>#c) (%X"counts") &j ^T)(&p"last_sort"&j))))
%dEJ:FF:=BY 3 Oj
%dKO:FS:=(%0W(fB (^Z"has_more"1 Bg Ad))3(%3x(%X"places")&4S))
%dBD:FF:=BY 1 KO
%dMv:FS:=(%3p(%5Q(%0A(%4c1)&W)AF 1%5w)(AU 2 (Cu "Rules" 2 CF (#b0)))(%0P(iL (#UCs 1))3(%B4(#v2 BF 1 3)(AI (#v2 EJ 2 4))(AI (&E"finish"1 BD 4 Ad))))(%0W(fB (Ao "Rules" "wants_action" 1 BU &j Ad))9(%4c1))(Bz &j))
%dDz:FF:=BY 5 Mv
%dTf:FS:=(Ag (&p"balls"&W) (&e(&p"switches"Gb)(&p"lamps"Gb)(%3p(&p"coils"Gb)(&p"mosts"Gb)(&p"holding"Gb)(&p"devices"Gb)(%3p(&p"device_coils"Gb)(&p"device_switches"Gb)(&p"drained"&W)(&p"kick_places"%1w)(&p"kick_coils"Gb)))))
%dEC:FF:=BY 1 Tf
%dUc:FS:=(&e(AI (&E"take_name"1 Bx 1 Ad))(%1U2 AA 1"balls")(&p"balls"(%5Y3 AR 1(%6A1 8))))
%dGH:FF:=BY 2 Uc
%dSh:FS:=(Ag (AI (^Z"take_word"2 AA(%1Z(%C"at")))) (%B3(^Z"take_number"3 AR(%8P0(#b2)))(%0W(Us (nU &M) (&l(oI λi j=>.bl (decide (i≤j)))3(fUn ZF &M)))5(^Z"spot"1 Av Ad))%3U))
%dFR:FF:=BY 4 Sh
%dPz:FS:=(#F2(%9J3 By 1(%1R&3c(%1AoTup(%C"drain"))))(%B3(%3O3 FR 1(Aa &3c (%1D63)))(%1U2 AA 1"close")(%3p(AI (%5Y3 AR 1(%6A1 31)))(%1U2 AA 1"open")(AI (%5Y3 AR 1(%6A1 31)))(#G(fB (%8n1 Bg 1 Ad))(%1U2 AA 1"turned"))(GJ &3c &j &J))))
%dF9:FF:=BY 4 Pz
%dUa:FS:=(#F2(%9J3 By 1(%1R&4Y(%1AoTup%9m)))(GJ &4Y &j (%3O3 FR 1(Aa &4Y (%1D63)))))
%dIe:FF:=BY 3 Ua
%dUd:FS:=(#F2(%9J3 By 1(%1R&5d&4h))(%B3(%3O3 FR 1(Aa &5d (%1D31)))(%1U2 AA 1"most")(%3p(GJ (%X"mosts") &J (%5Y3 AR 1(%6A1 1023)))(%1U2 AA 1"rest")(AI (%5Y3 AR 1(%6A1 4095)))(#G(fB (%8n1 Bg 1 Ad))(Ag (%1U2 AA 1"hold") (GJ (%X"holding") &J (%5Y3 AR 1(%6A1 15)))))(GJ &5d &j &J))))
%dIg:FF:=BY 4 Ud
%dIk:FS:=(%B2(%4J2 Al 1&3c)(#Y(&l%7j 2(%X"device_switches"))7 1 Av 1 Ad)(GJ (%X"device_switches") &j (fC &4f)))
%dCa:FF:=BY 3 Ik
%dUb:FS:=(&e(AI (#v2 Ca 0 1))(AU 2 ^T)(Dv (fB (%8n1 Bg 1 Ad)) (&e(#G(fOr (%0u2(&R8)) (fB (%3X2 AY 1(%C"drain"))))(&e(%1U2 AA 1"drain")(Jo "drained" (oI λi j=>#c) &Z &j)Tv))(AI (#v2 Ca 0 1))(SD 2 (oI λi j=>#c) ^T)) fuel))
%dN7:FF:=BY 3 Ub
%dKI:FS:=(%3p(#Y(%0A(%8l&6I)(&R8))3 1 Av 1 Ad)(AU 2 (%9J3 By 1(%1R&6I&4h)))(%1U2 AA 1"by")(AU 3 (%4J2 Al 1&5d))(%3p(#Y(&l%7j 3(%X"device_coils"))7 1 Av 1 Ad)(GJ (%X"device_coils") &J (fC &4f))(%1U2 AA 1"holds")(AI (#v2 N7 0 1))(GJ &6I &j (%8l&6I))))
%dE6:FF:=BY 4 KI
%dKo:FS:=(%B3(^Z"take_known"2 Al(#b1))(%0W(Us (nU &j) (&l(oI λi j=>.bl (decide (i≤j)))3(%3x&j(fUn (oU λi=>%9v) ^T))))5(^Z"spot"1 Av Ad))%3U)
%dCm:FF:=BY 4 Ko
%dOl:FS:=(Ag (#Y(%0A(%8l(%X"kick_places"))(&R8))3 1 Av 1 Ad) (%B2(&E"take_above"3 Cm 1(%1R&3c(%X"kick_places")))(#Y(&l%7j 2(%X"device_switches"))7 1 Av 1 Ad)(%B3(%4J2 Al 1&5d)(#Y(fOr (&l%7j 3(%X"device_coils")) (&l%7j 3(%X"kick_coils")))7 1 Av 1 Ad)(%3p(%1U2 AA 1"for")(#Y(^p(oI λi j=>^S)(%5Y3 AR 1(%6A1 255))(Am Bf (%X"mosts") &J))7 1 Av 1 Ad)(#G(fB (%8n1 Bg 1 Ad))(Ag (%1U2 AA 1"till") (#Y(%0A(%4J2 Al 1&3c)&j)7 1 Av 1 Ad)))(%4FBq(%X"kick_places")(#b2))(GJ (%X"kick_coils") &J (fC &4f))))))
%dGG:FF:=BY 4 Ol
%dGm:Str→Option FF:=λx=>([("read_head",GH),("read_switch",F9),("read_lamp",Ie),("read_coil",Ig),("read_device",E6),("read_kick",GG)]:List (Str×FF)).lookup x
%dPV:Str→%u:=λ_=>["table","line"]
%dMu:FS:=(Ag (%5Q(%0A%1q&W)AF 1%5w) (%B1(Cu "Table" 1 EC Ad)(AU 2 %1G)(&e(%0P(iL (#UCs 0))3(#F4(#v2 BF 0 3)(%B2(%3O3 CB 4(%1s(%5o[&6O,%8Q,&4T,&3u,%8S,&4Z])2))(AI (S6 2 Gm (%6zEI [(.inr "table",&2Z),(.inr "switch",&2S),(.inr "lamp",&3a),(.inr "coil",&3e),(.inr "device",&2V),(.inr "kick",&3i)]) (%1g1 4)))(AI (&E"finish"1 BD 4 Ad)))))(%0W(^p(oI λi j=>%4w)(%3u"drained")(%3u"balls"))8%1q)%5t)))
%dEZ:FF:=BY 5 Mu
%dGz:FS:=(Ag (&p"table"&M) (&p"names"(Hn [((%C"switch"),(%3u"switches")),((%C"lamp"),(%3u"lamps")),((%C"coil"),(%3u"coils")),((%C"device"),(%3u"devices")),((%C"show"),&j)])))
%dBK:FF:=BY 3 Gz
%dMX:FS:=(&e(&p"shows"Gb)(&p"lamps"%1w)&4a)
%dD9:FF:=BY 1 MX
%dKq:FS:=(Bz (ah (Am (oI λi j=>^S) %8m &W) (Am &1k (%X"steps") &W)))
%dCQ:FF:=BY 1 Kq
%dOi:FS:=(%3p(#Y(fOr (%0A%8m%1n) (fB (Ao "Book" "wants_step" 1 CQ &Z Ad)))3 1 Av 2 Ad)(AU 3 (%9J3 By 2(%1R&0i&4h)))(%1U2 AA 2"on")(AU 4 (%1AEl(&E"take_known"2 Al 2(#b1))))(%3p(Dv (Us (fB (%8n1 Bg 2 Ad)) (VI (fB (%3X2 AY 2%9m)))) (&0oBq%0l(&E"take_above"3 Cm 2(%1g1 4))) fuel)(#G(fB (%3X2 AY 2%9m))(AI (&5G2 AA 2%9m)))(GJ &0i &J %8m)&5s&4a))
%dIc:FF:=BY 5 Oi
%dOh:FS:=(&e(#Y(fOr (%0A%8m&W) (%0A(%X"steps")(&R16)))3 1 Av 2 Ad)(AI (%5Y3 AR 2(%6A1 65535)))(%B3%1w(Dv (fB (%8n1 Bg 2 Ad)) (%B4(&E"take_above"3 Cm 2(%1g1 3))(#Y(&l(Uq true)4&4Y)6 1 Av 2 Ad)(%4FBq&J(#b4))) fuel)(Jo "steps" (oI λi j=>#c) &Z ^T)))
%dIb:FF:=BY 5 Oh
%dOm:FS:=(#F2(Cu "Book" 1 D9 Ad)(&e(%0P(iL (#UCs 1))3(#F4(#v2 BF 1 3)(%B5(&E"take"1 Bw 4 Ad)(sIf (^X5"show") (AI (%1c3 Ic 2 0 4)) (sIf (^X5"step") (AI (%1c3 Ib 2 0 4)) (AQ "Fault" AF (%8P3(%1Z(&E"spot"1 Av 4 Ad))))))(AI (&E"finish"1 BD 4 Ad)))))(%0W(fB (Ao "Book" "wants_step" 1 CQ &j Ad))9(%4c1))(Bz (AB "shows" &j))))
%dCC:FF:=BY 6 Om
%dJD:FS:=(Ag (#G(fOr (^p(oI λi j=>^S)%1q(&R16384)) (fOr (^p(oI λi j=>^S)(%4c1)&3Q) (^p(oI λi j=>^S)(%4c2)&3Q)))(AQ "TooLong" (mkRef (-2)) Ad)) (OQ 4 (#F3(#UEZ 0)(Bz (Cu "Setting" 3 BK (%4k3(Ax 2 CC (%1s(AB "lamps" &J)1)))))) [(["Fault"],.inr ("FaultySetting",[("number",-8)]))]))
%dCq:FF:=BY 4 JD
%dOq:FS:=(%B3(%4r1 Eh(Ax 2 Dz (%1s(%1c3 Cq 0 1 2)2)))(#G(^p(oI λi j=>^S)(%4c3)&3Q)(AQ "CodeTooLong" (mkRef (-9)) Ad))%3U)
%dCD:FF:=BY 4 Oq
%dYT:FS:=(Ag (OQ 5 (AI (%1c3 CD 0 1 2)) [(["TooLong","FaultySetting","CodeTooLong"],.inl (3,(Bz (%1AoLst(fUn (VE "number") &J))))),(["Fault"],.inl (4,(Bz (%4U(%8P(-6)(%1R(fUn (VE "kind") %0l)(fUn (VE "place") %0l)))))))]) (Bz &5n))
%dMp:FF:=BY 5 YT
end JU
namespace PySem
open Sem (wp)
section
variable{prog:Program}{w:World}{κ:Type} [DecidableEq κ]{knd:KeyKind prog w κ}{A:Around}{E:Value→Shared→Prop}{s:Shared}{d it:Addr}{kvs:List (κ×Value)}{k:κ}{x:Value}{i ep:Nat}
%tlJ{Q:Value→Shared→Prop}(hit:&0Fit d i kvs.length)(hm:s.heap.DictAt knd d kvs ep)(hx:kvs[i]? =some (k,x))(hQ:∀key h',knd.is k key=true→h'.IsKeyIter it d (i+1) kvs.length ep→&3lit h'→%5Tkey):
 #mw A(Builtin.SmallTypes.nextOf %4M)Q E s:=by
 u Builtin.SmallTypes.nextOf;e wpAny_bind (PySem.W.kdk_special hit hm hx λkey h' a b c=>wpAny_pure (hQ key h' a b c))
%tlG{n:Nat}{od:Obj}{es:%4B}{Q:Value→Shared→Prop}(hh:A.handled=none)(hit:&0Fit d i n)(hod:%6X=&0Y)(hdd:od.data=%1Q)(hsz:es.size=n)(hge:n≤i)
 (hE:∀h' e,Heap.ExtBut it s.heap h'→(∃o,&3O=%b∧o.cls=&6d)→E #n {s with heap:=h'}):#mw A(Builtin.SmallTypes.nextOf %4M)Q E s:=by
 o⟨o,ho,hc,hd⟩:=id hit;u Builtin.SmallTypes.nextOf;r wpAny_bind (wpAny_callSpecial?_slot (name:=&4s) hit.typeIs F.slot_dict_keyiterator_next (&4gF.slot_dict_keyiterator_next hit.typeIs F.entry_dict_keyiterator_next(F.args_dict_keyiterator_next_1 _)));r %5h;C;C
 first|r &3H|r &3M
 m3;j0;r %5h;l5;r %5h;r &6rhod hdd ?_;a0;r %0R;p5;C
 first|r &3H|r &3M
 show #A_ _(setField %4M 0 .none>>= _)_ _;w3;C;s[newExc,newTuple];o8;r &5N?_;s[raiseNew];v5;r %8X(wpAny_throw ?_);e hE _ _ (((Heap.SameBut.update ..).extBut.push _).push _) (%9d_^l)
end
section
variable{prog:Program}{w:World}{κ:Type} [DecidableEq κ]{knd:KeyKind prog w κ}{A:Around}{E:Value→Shared→Prop}{s:Shared}{d z TI TO i1 i2 l2:Addr}{kvs:List (κ×Value)}{k:κ}{x y a b:Value}{i k2 ep:Nat}{ys:Array Value}
%tkx{t:Addr}{h h':Heap}(hm:h.DictAt knd d kvs ep)(e:Heap.ExtBut t h h')(hd:d≠t):h'.DictAt knd d kvs ep:=by
 o⟨o,es,ho,r⟩:=hm;e⟨o,es,e d o hd ho,r⟩
%tgX{Q:Value→Shared→Prop}(D:ZipApart z TI TO i1 i2 d l2)(hz:IsZip s.heap z TI TO .none)(hTI:IsPair s.heap TI &2v (.ref i2))(hTO:IsPair s.heap TO a b)(h1:&0Fi1 d i kvs.length)(h2:s.heap.IsListIter i2 l2 k2)(hm:s.heap.DictAt knd d kvs ep)(hl2:s.heap.IsList l2 ys)(hx:kvs[i]? =some (k,x))(hy:ys[k2]? =%4g)
 (hQ:∀key h',knd.is k key=true→IsZip h' z TI TO (rawInt s.heap.objs.size)→IsPair h' TO key y→h'.IsKeyIter i1 d (i+1) kvs.length ep→h'.IsListIter i2 l2 (k2+1)→IsPair h' s.heap.objs.size key y→h'.objs.size=s.heap.objs.size+1→(∀c o,c≠z→c≠TO→c≠i1→c≠i2→&3g=%b→h'.get? c=%b)→%5T%6R):
 #mw A(Builtin.«zip.__next__» ⟨[.ref z],[]⟩)(λfin s'=>∃v,fin=.done (.ret v)∧Q v s')E s:=by
 r6;r1;s5;C;r5;s[if_true];r wpAny_bind (wpAny_rule ?_);p7;h hza:IsZip ha z TI TO .ellipsis:=hza;C;x2;r wpAny_bind (lJ (h1.extBut sa.extBut D.i1z) (kx hm sa.extBut D.l1z) hx λkey hb hkey h1b sb=>%0R);h hTOb:IsPair hb TO a b:=sb.extBut _ _ D.TOi1 (sa.extBut _ _ D.TOz hTO);r &4yhTOb rfl ?_;r wpAny_bind (wpAny_updateSeq_pair hTOb λhc hTOc sc=>?_);h hTOc:IsPair hc TO key b:=hTOc;r wpAny_bind (wpAny_letGo %0R);r &1t(wpAny_onRaise ?_);show wpAny _ _ (Builtin.SmallTypes.nextOf (.ref i2)>>= _) _ _ _;h h2c:=((h2.extBut sa.extBut D.i2z).extBut sb.extBut D.i12.symm).extBut sc.extBut D.TOi2.symm;h l2c:=((hl2.extBut sa.extBut D.l2z).extBut sb.extBut D.l2i1).extBut sc.extBut D.l2TO;r wpAny_bind (wpAny_nextOf_list_item h2c l2c hy λhd h2d sd=>%0R);h hTOd:IsPair hd TO key b:=sd.extBut _ _ D.TOi2 hTOc;r &4yhTOd rfl ?_;r wpAny_bind (wpAny_updateSeq_pair hTOd λhe hTOe se=>?_);h hTOe:IsPair he TO key y:=hTOe;r wpAny_bind (wpAny_letGo (wpAny_pure %0R));r &4yhTOe rfl ?_;r wpAny_bind (wpAny_newTuple ?_);h size:he.objs.size=s.heap.objs.size:=by rw[se.1,sd.1,sc.1,sb.1,sa.1]
 h hze:IsZip he z TI TO .ellipsis:=se.extBut _ _ D.TOz.symm (sd.extBut _ _ D.i2z.symm (sc.extBut _ _ D.TOz.symm (sb.extBut _ _ D.i1z.symm hza)));h far:∀c o,c≠z→c≠TO→c≠i1→c≠i2→&3g=%b→he.get? c=%b:=λc o q1 q2 q3 q4 e=>se.extBut _ _ q2 (sd.extBut _ _ q4 (sc.extBut _ _ q2 (sb.extBut _ _ q3 (sa.extBut _ _ q1 e))));h h1e:he.IsKeyIter i1 d (i+1) kvs.length ep:=((h1b.extBut sc.extBut D.TOi1.symm).extBut sd.extBut D.i12).extBut se.extBut D.TOi1.symm;h h2e:he.IsListIter i2 l2 (k2+1):=h2d.extBut se.extBut D.TOi2.symm;h zlt:z<he.objs.size:=Heap.lt_size hze;show wpAny _ _ (Builtin.SmallTypes.ownedTupleHandOut %7v (.ref he.objs.size)>>= _) _ _ _;C;u Builtin.SmallTypes.ownedTupleHandOut;h hzf:IsZip (he.push {cls:=#M,data:=.seq #[key,y]}) z TI TO .ellipsis:=%5chze;r wpAny_bind (wpAny_setField_rec hzf (by simp) λhg hzg sg=>?_);h hzg:IsZip hg z TI TO (rawInt he.objs.size):=hzg;r wpAny_setField_rec hzg (by simp) λhh hzh sh=>?_;h hzh:IsZip hh z TI TO (rawInt he.objs.size):=hzh;h up:∀c o,c≠z→he.get? c=%b→hh.get? c=%b:=λc o q e=>sh.extBut _ _ q (sg.extBut _ _ q %5C);h hTh:IsPair hh he.objs.size key y:=sh.extBut _ _ (Nat.ne_of_gt zlt) (sg.extBut _ _ (Nat.ne_of_gt zlt) ^l);h sizeh:hh.objs.size=he.objs.size+1:=by rw[sh.1,sg.1,Heap.size_push]
 rw[size] at hzh hTh sizeh;r &3P_ rfl ?_;show Q (.ref he.objs.size) _;rw[size];e hQ key hh hkey hzh (up _ _ D.TOz hTOe) (h1e.at λo e=>up _ o D.i1z e) (h2e.at λo e=>up _ o D.i2z e) hTh sizeh λc o q1 q2 q3 q4 e=>up c o q1 (far c o q1 q2 q3 q4 e)
%tlI{n:Nat}{od:Obj}{es:%4B}{Q:Fin→Shared→Prop}(hh:A.handled=none)(D:ZipApart z TI TO i1 i2 d l2)(hz:IsZip s.heap z TI TO .none)(hTI:IsPair s.heap TI &2v (.ref i2))(h1:&0Fi1 d i n)(hod:%6X=&0Y)(hdd:od.data=%1Q)(hsz:es.size=n)(hge:n≤i)
 (hE:∀h' e,(∀c o,c≠z→c≠TO→c≠i1→c≠i2→&3g=%b→h'.get? c=%b)→(∃o,&3O=%b∧o.cls=&6d)→E #n {s with heap:=h'}):#mw A(Builtin.«zip.__next__» ⟨[.ref z],[]⟩)Q E s:=by
 r6;r1;s5;C;r5;s[if_true];r wpAny_bind (wpAny_rule ?_);p7;h hza:IsZip ha z TI TO .ellipsis:=hza;C;x2;r wpAny_bind (lG hh (h1.extBut sa.extBut D.i1z) (sa.extBut _ _ D.l1z hod) hdd hsz hge λhb e sb he=>?_);o⟨oe,hoe,hce⟩:=he;h hzb:IsZip hb z TI TO .ellipsis:=sb _ _ D.i1z.symm hza
 h hez:e≠z:=λq=>by
  subst q;rw[hzb] at hoe;c hoe;simp at hce
 e wpAny_setField_rec hzb (by simp) λhc _ sc=>hE hc e (λc o q1 _ q3 _ t=>sc.extBut _ _ q1 (sb _ _ q3 (sa.extBut _ _ q1 t))) ⟨oe,sc.extBut _ _ hez hoe,hce⟩
%tlH{Q:&f→Shared→Prop}(D:ZipApart z TI TO i1 i2 d l2)(hz:IsZip s.heap z TI TO .none)(hTI:IsPair s.heap TI &2v (.ref i2))(hTO:IsPair s.heap TO a b)(h1:&0Fi1 d i kvs.length)(h2:s.heap.IsListIter i2 l2 k2)(hm:s.heap.DictAt knd d kvs ep)(hl2:s.heap.IsList l2 ys)(hx:kvs[i]? =some (k,x))(hy:ys[k2]? =%4g)
 (hQ:∀key h',knd.is k key=true→IsZip h' z TI TO (rawInt s.heap.objs.size)→IsPair h' TO key y→h'.IsKeyIter i1 d (i+1) kvs.length ep→h'.IsListIter i2 l2 (k2+1)→IsPair h' s.heap.objs.size key y→h'.objs.size=s.heap.objs.size+1→(∀c o,c≠z→c≠TO→c≠i1→c≠i2→&3g=%b→h'.get? c=%b)→%5T(%es.heap.objs.size)):#mw A(pyNext %7v)Q E s:=by
 h ty:s.TypeIs %7v "zip":=⟨_,hz,rfl⟩;u pyNext;e wpAny_bind (wpAny_attempt (wpAny_callSpecial?_slot (name:=&4s) ty F.slot_zip_next (wpAny_call_entry F.slot_zip_next ty F.entry_zip_next (gX D hz hTI hTO h1 h2 hm hl2 hx hy λkey h' q1 q2 q3 q4 q5 q6 q7 q8=>wpAny_pure (hQ key h' q1 q2 q3 q4 q5 q6 q7 q8)) (F.args_zip_next_1 _))))
%tpR{n:Nat}{od:Obj}{es:%4B}{Q:&f→Shared→Prop}(hh:A.handled=none)(D:ZipApart z TI TO i1 i2 d l2)(hz:IsZip s.heap z TI TO .none)(hTI:IsPair s.heap TI &2v (.ref i2))(h1:&0Fi1 d i n)(hod:%6X=&0Y)(hdd:od.data=%1Q)(hsz:es.size=n)(hge:n≤i)
 (hQ:∀h',(∀c o,c≠z→c≠TO→c≠i1→c≠i2→&3g=%b→h'.get? c=%b)→%5Tnone):#mw A(pyNext %7v)Q E s:=by
 h ty:s.TypeIs %7v "zip":=⟨_,hz,rfl⟩;u pyNext;r wpAny_bind (wpAny_attempt (wpAny_callSpecial?_slot (name:=&4s) ty F.slot_zip_next (wpAny_call_entry F.slot_zip_next ty F.entry_zip_next (lI hh D hz hTI h1 hod hdd hsz hge λh' e hk he=>?_) (F.args_zip_next_1 _))));o⟨o,ho,hc⟩:=he;e wpAny_bind (wpAny_isInstance (T:="StopIteration") (b:=true) ⟨o,ho,hc⟩ isSubtype_stop (wpAny_pure (hQ _ hk)))
end
abbrev zkI(d:Addr)(n ep:Nat):Obj:={cls:=.type "dict_keyiterator",data:=.fields #[.ref d,.int 0 0,.int n 0,.int ep 0]}
abbrev zkL(l:Addr):Obj:={cls:=.type "list_iterator",data:=.fields #[.ref l,.int 0 0]}
abbrev zkH(h:Heap)(d l:Addr)(n ep:Nat):Heap:=((((h.push (zkI d n ep)).push (zkL l)).push {cls:=#M,data:=.seq #[.ref h.objs.size,.ref (h.push (zkI d n ep)).objs.size]}).push {cls:=#M,data:=.seq #[.none,.none]}).push {cls:=.type "zip",data:=.fields #[.none,%7W,%7W,.ref ((h.push (zkI d n ep)).push (zkL l)).objs.size,.ref (((h.push (zkI d n ep)).push (zkL l)).push {cls:=#M,data:=.seq #[.ref h.objs.size,.ref (h.push (zkI d n ep)).objs.size]}).objs.size]}
%tgU(d l:Addr)(o:Obj)(es:%4B)(ep:Nat)(ys:%0G):Meets (Builtin.«zip.__new__» ⟨[.type "zip",^z,%9V],[]⟩) (λ_ R s=>(d==sysModules)=false∧%6X=%b∧o.ExactDict∧o.data=%1Q∧s.heap.IsList l ys∧R (.ok (.ret (.ref (s.heap.objs.size+4)))) {s with heap:=zkH s.heap d l es.size ep}):=
 .of_wp λprog w A R s h=>by
  o⟨hp,g,t,tk,os⟩:=s;o⟨q1,q2,q3,q4,q5,h⟩:=h;h hsub:=sub_zip;h q2':(Shared.heap (%1vhp g t tk)).get? d=%b:=q2;h q5':Heap.IsList (Shared.heap (%1v(hp.push (zkI d es.size ep))g t tk)) l ys:=Heap.IsList.push q5 _
  wp_walk using L2.S4 q1 q2' q3 q4,wpAny_pyIter_list q5'
  h e4:((((hp.push (zkI d es.size ep)).push (zkL l)).push {cls:=#M,data:=.seq #[.ref hp.objs.size,.ref (hp.push (zkI d es.size ep)).objs.size]}).push {cls:=#M,data:=.seq #[.none,.none]}).objs.size=hp.objs.size+4:=by
   s[Heap.size_push]
  h h:R (.ok (.ret (.ref (hp.objs.size+4)))) (%1v(zkH hp d l es.size ep)g t tk):=h;rw[←e4] at h;e⟨_,rfl,h⟩
section
variable{prog:Program}{w:World}{A:Around}{E:Value→Shared→Prop}{s:Shared}
%tlK{d l:Addr}{o:Obj}{es:%4B}{ep:Nat}{ys:%0G}{Q:Value→Shared→Prop}(q1:(d==sysModules)=false)(q2:%6X=%b)(q3:o.ExactDict)(q4:o.data=%1Q)(q5:s.heap.IsList l ys)
 (h:∀h',IsZip h' (s.heap.objs.size+4) (s.heap.objs.size+2) (s.heap.objs.size+3) .none→IsPair h' (s.heap.objs.size+2) %6R (.ref (s.heap.objs.size+1))→IsPair h' (s.heap.objs.size+3) .none .none→h'.IsKeyIter s.heap.objs.size d 0 es.size ep→h'.IsListIter (s.heap.objs.size+1) l 0→(∀c o,&3g=%b→h'.get? c=%b)→%5T(.ref (s.heap.objs.size+4))):
 #mw A(call (.type "zip") [^z,%9V])Q E s:=by
 r callType_new F.called_zip (by decide) (F.typeCall_zip_2 _ _) (F.newCall_zip_2 _ _) (λobj=>F.args_object_init_3 obj _ _) F.entry_zip_new (gU d l o es ep ys) ⟨q1,q2,q3,q4,q5,?_⟩;h g1:(zkH s.heap d l es.size ep).get? s.heap.objs.size=some (zkI d es.size ep):=&3L(&3L^l);h g2:(zkH s.heap d l es.size ep).get? (&3Bd ep).objs.size=some (zkL l):=%5c(&3L^l);h g3:(zkH s.heap d l es.size ep).get? ((&3Bd ep).push (zkL l)).objs.size=some _:=&3L^l;h g4:(zkH s.heap d l es.size ep).get? (((&3Bd ep).push (zkL l)).push {cls:=#M,data:=.seq #[.ref s.heap.objs.size,.ref (&3Bd ep).objs.size]}).objs.size=some _:=%5c^l;h g5:(zkH s.heap d l es.size ep).get? ((((&3Bd ep).push (zkL l)).push {cls:=#M,data:=.seq #[.ref s.heap.objs.size,.ref (&3Bd ep).objs.size]}).push {cls:=#M,data:=.seq #[.none,.none]}).objs.size=some _:=^l;s[Heap.size_push] at g2 g3 g4 g5;show _∧_;e⟨⟨_,g5,rfl⟩,h _ g5 g3 g4 ⟨_,g1,rfl,rfl⟩ ⟨_,g2,rfl,rfl⟩ λc o t=>%5c(&3L(&3Lt))⟩
end
end PySem
namespace L2
open PySem PySem.Spec PyProof.Rows
%duS(K:PySem.W.Frag)(d:Addr)(o:Obj)(kvs:#E)(b:Addr):It:=
 ⟨λi H=>%1X=^Go%3K∧i<kvs.length∧∃(ys:%c) (y:V),SqL K H b ys∧ys[i]? =%4g,
   λi H v H'=>∃T k x y,v=.ref T∧H T=none∧H'=%YT(%0a%1b y)∧kvs[i]? =some (k,x)∧∀ys,SqL K H b ys→ys[i]? =%4g,
   λi H=>%1X=^Go%3K∧kvs.length≤i⟩
%teB{P:Program}{w:World}{K:PySem.W.Frag}{elts:%0i}{kk ep:Nat}{tpos:Pos}{d b z TI TO i1 i2:Addr}{o:Obj}{es:%4B}{kvs:#E}(D:ZipApart z TI TO i1 i2 d b)(hod:o.data=%1Q):
 Turn P w K (.Tuple elts kk tpos) (uS K d o kvs b) [z,TI,TO,i1,i2] z (λi h=>IsZip h z TI TO .none∧IsPair h TI &2v (.ref i2)∧(∃x y,IsPair h TO x y)∧h.IsKeyIter i1 d i kvs.length ep∧h.IsListIter i2 b i) where
 mem:=by simp
 obj:=λi h st c hc=>by
  o⟨hz,hTI,⟨x,y,hTO⟩,⟨o1,e1,_,d1⟩,⟨o2,e2,_,d2⟩⟩:=st;h e':c=z∨c=TI∨c=TO∨c=i1∨c=i2:=by simpa using hc
  rcases e' with q|q|q|q|q
  ·rw[q];e⟨_,hz,λv q=>nomatch q⟩
  ·rw[q];e⟨_,hTI,λv q=>nomatch q⟩
  ·rw[q];e⟨_,hTO,λv q=>nomatch q⟩
  ·rw[q];e⟨o1,e1,λv q=>by rw[d1] at q;c q⟩
  ·rw[q];e⟨o2,e2,λv q=>by rw[d2] at q;c q⟩
 keep:=λi h h' st k=>by
  o⟨hz,hTI,⟨x,y,hTO⟩,h1,h2⟩:=st;e⟨k z (by simp) _ hz,%6vTI _ hTI,⟨x,y,%6vTO _ hTO⟩,h1.at λo q=>%6vi1 o q,h2.at λo q=>%6vi2 o q⟩
 item:=by
  H;o⟨hz,hTI,⟨x0,y0,hTO⟩,h1,h2⟩:=st;o⟨hd,hi,ys,y,hqy,hy⟩:=hg;f8;k2;u8;rw[hl] at h1;o⟨its2,rv2,p2,_⟩:=I.list hqy;o⟨u2,hu2,ru2⟩:=rv2.get hy;h hzl:z<s.heap.objs.size:=Heap.lt_size hz;r lH D hz hTI hTO h1 h2 hm p2.isList hu (y:=u2) (by simpa using hu2) λkey h' hkey z' TO' h1' h2' hT hsz hk=>?_;r⟨_,rfl,wpAny_letOwnedTupleGo_zip (s:={s with heap:=h'}) z' λh'' z'' sb=>?_⟩;h hT2:h''.get? s.heap.objs.size=some {cls:=#M,data:=.seq #[key,u2]}:=(sb.2 _ (Nat.ne_of_gt hzl)).trans hT;h rkey:RelV %1b key:=Zq (show NQ k key=true from hkey)
  h new:C2 X.prog X.w (&2Y(%0a%1b y)) h'' s.heap.objs.size (%0a%1b y):=
   ⟨by show 2≤sizeLine;decide,[key,u2],.cons rkey (%4Pru2),⟨_,hT2,rfl,_,rfl⟩⟩
  h I1:&O(&2Y(%0a%1b y)){s with heap:=h''}:=
   I.WE (t':=s.toks) (ch:=[z,TI,TO,i1,i2]) (λc o hb q=>(sb.2 c (λq'=>%8Z)).trans (hk c o (λq'=>%8Z) (λq'=>%8Z) (λq'=>%8Z) (λq'=>%8Z) q)) hf %L new
  r⟨.ref s.heap.objs.size,_,I1,rfl,⟨_,k,v,y,rfl,%5f,rfl,hkv,λl hl=>by rw[I.Vt hl hqy];e hy⟩,⟨z'',?_,⟨key,u2,?_⟩,?_,?_⟩,λc hcm=>?_⟩
  ·e(sb.2 _ D.TIz).trans (hk _ _ D.TIz D.TITO D.TIi1 D.TIi2 hTI)
  ·e(sb.2 _ D.TOz).trans TO'
  ·rw[hl];e h1'.at λo q=>(sb.2 _ D.i1z).trans q
  ·e h2'.at λo q=>(sb.2 _ D.i2z).trans q
  ·h hlt:c<s.heap.objs.size:=by
    h e':c=z∨c=TI∨c=TO∨c=i1∨c=i2:=by simpa using hcm
    rcases e' with q|q|q|q|q
    ·rw[q];e hzl
    ·rw[q];e Heap.lt_size hTI
    ·rw[q];e Heap.lt_size hTO
    ·rw[q];o⟨_,e1,_⟩:=h1;e Heap.lt_size e1
    ·rw[q];o⟨_,e2,_⟩:=h2;e Heap.lt_size e2
   rw[Ay (Nat.ne_of_lt hlt)];e(hf c hcm).1
 done:=by
  H;o⟨hz,hTI,⟨x0,y0,hTO⟩,h1,h2⟩:=st;o⟨hd,hend⟩:=hg;f8
  e pR %3f D hz hTI h1 hgd hdt hsz hend λh' hk=>⟨rfl,I.lQ (t':=s.toks) (ch:=[z,TI,TO,i1,i2]) (λc o hb q=>
   hk c o (λq'=>%8Z) (λq'=>%8Z) (λq'=>%8Z) (λq'=>%8Z) q) hf⟩
 self:=λA i s Q E st h=>wpAny_pyIter_zip st.1 h
%duq(K:PySem.W.Frag)(ta:TA):TI:=λσ H R=>ta σ H λvs H1=>∃d o kvs b ys,vs=[.ref d,%9X]∧H1 d=^Go%3K∧SqL K H1 b ys∧R (uS K d o kvs b) H1
%tmP{X:Cx}{e e2:Expr}{ta:TA}{p pos tpos:Pos}{elts:%0i}{kk:Nat}(hg:Gl X "zip")(hm:X.mg "zip"=none)(ha:PA X [e,e2] ta)
 (hs:%4u[e,e2]=(false,#u)::%5Me2:=by rfl) (hpl:(%9o[e2]).any (·.1)=false:=by rfl):
 PI X (.Tuple elts kk tpos) (%6H"zip"p [e,e2]) (uq X.K ta):=by
 Z;r Call_ (Qc I hg hm gJ (PyProof.Rows.callWith_type1 (thn (ha pos pins s σ H _ I h) λus s1 ⟨vs,H1,I1,r1,q1⟩=>?_) hs hpl));o⟨d,o,kvs,b,ys,ex,hd,hqy,q⟩:=q1;P
 cases r1 with
 |cons r rr=>
  cases rr with
  |cons r' rr=>
   c rr;c r;c r';o⟨hs1,hgd,hx,es,ep,vs,hdt,hsz,kv,hmm⟩:=I1.gp hd;o⟨its2,rv2,p2,_⟩:=I1.list hqy;h la:d<s1.heap.objs.size:=Heap.lt_size hgd;h lb:b<s1.heap.objs.size:=p2.lt;r lK hs1 hgd hx hdt p2.isList λh' hz hTI hTO h1 h2 hk=>wpAny_pyIter_zip hz ?_;y3;rw[hsz] at h1;r⟨s1.heap.objs.size+4,[s1.heap.objs.size+4,s1.heap.objs.size+2,s1.heap.objs.size+3,s1.heap.objs.size,s1.heap.objs.size+1],_,_,H1,rfl,I2,eB (PySem.W.ktu_apart s1.heap.objs.size d b la lb) hdt,⟨hz,hTI,⟨_,_,hTO⟩,h1,h2⟩,λc hcm=>?_,q⟩;h e':c=s1.heap.objs.size+4∨c=s1.heap.objs.size+2∨c=s1.heap.objs.size+3∨c=s1.heap.objs.size∨c=s1.heap.objs.size+1:=by simpa using hcm
   h hle:s1.heap.objs.size≤c:=by
    rcases e' with z|z|z|z|z
    ·w;e &1C_
    ·w;e &1C_
    ·w;e &1C_
    ·w;e %L
    ·w;e &1C_
   e I1.bZ hle (I1.hok.fresh hle)
end L2
namespace L2
namespace G
open PySem PySem.Spec PyProof.Rows
variable [NC]
section
variable{g:Wd}{E:XK}{X:Cx}{e1 e2:Expr}{elts:List Expr}{kk:Nat}{tpos:Pos}{body:List Stmt}{t:TGA}{gT:TG}{fb:FS}{fx fy:FE}{pos p cpos:Pos}
%tgu(hp:PassesOwn %6i X.A X.env X.xe)(hc:X.calm=true)(hg:Gl X "zip")(hm:X.mg "zip"=none)(qx:Quiet fx)(qy:Quiet fy)(hx:%Re1 fx)(hy:%Re2 fy)(hg':PG X (.Tuple elts kk tpos) gT)(ag:AG g t gT)(hb:DSs g E X body fb)(hK:g.K=X.K:=by rfl)
 (hs1:%4u[e1,e2]=(false,#Be1)::%5Me2:=by rfl) (hs2:%5Me2=(false,#Be2)::%4u[]:=by rfl) (hpl:(%6D[e2]).any (·.1)=false:=by rfl) (hs:∀x,&1w(&0j"zip"p [e1,e2]cpos)x=%1M:=by intro _;rfl):
 DS g E X (.For (.Tuple elts kk tpos) (&0j"zip"p [e1,e2]cpos) body [] pos) (LY fx fy t fb):=(cV (bB hp hc (mP hg hm (Ab hx (Ab hy Af hs2) hs1) hs1 hpl) hg' hb hs)).imp λD σ H ⟨F,m,h,τ,R,N,P⟩=>by
 u LY at P;f
 ·rename_i j h0 e0;f
  ·rename_i kvs ej;f
   ·rename_i j' h1 y h2 ex1 ey1;f
    ·rename_i hjj;subst hjj;f
     ·rename_i ys eys;h q1:=qx _ _ _ _ ex1;h q2:=qy _ _ _ _ ey1;subst q1;subst q2
      h ef:Aa fx (%1Zfy) τ (%5vj')=.ok [.ref j',y] (%5vj'):=by
       s[Aa,ex1,ey1,Ad,Res.bind]
      o⟨u,hu,ro⟩:=R.obj j' _ ej
      cases ro with
      |@dct _ vs rk=>
       v1;p6;p0;rw[ef];intro F2 m2 H2 us l2 R2 rb;o⟨v1,v2,rfl,rb1,rb2⟩:=rb.inv2
       cases rb1 with
       |ref hi=>
        t1;p8;o⟨b,bs,rfl,qb,rbs⟩:=Ds R2 rb2 eys;rw[em];r⟨m j',od,vs,b,bs,rfl,R2.frz _ _ hF2,by rw[←hK];e qb,?_⟩;r Z9 (t:=t) (E:=E) (τ:=τ) (it:=IZ kvs y) ag R2 (by rw[hlen];e N.mono lw) (λF3 m3 h3 H3 i l3 R3=>?_) ?_
        ·h hF3:H3 %0o=&0W:=R3.frz _ _ (l3.fr _ _ hF2);h kk:=rk2.key i;h rb3:=rb2.mono l3
         cases ek:kvs[i]? with
         |none=>
          rw[ek] at kk;s[IZ,ek];r⟨hF3,?_⟩
          cases ev:vs[i]? with
          |none=>e List.getElem?_eq_none_iff.mp ev
          |some p=>rw[ev] at kk;c kk
         |some p=>
          rw[ek] at kk
          cases ev:vs[i]? with
          |none=>rw[ev] at kk;c kk
          |some p'=>
           rw[ev] at kk;h kk:p.1=p'.1:=Option.some.inj kk
           cases e3:AH y h3 with
           |none=>s[IZ,ek,e3]
           |some ys3=>
            o⟨b',us3,eb,q3,r3⟩:=Ds R3 rb3 e3;c eb
            cases ei:ys3[i]? with
            |none=>s[IZ,ek,e3,ei]
            |some y3=>
             o⟨u3,g1,g2⟩:=r3.get ei;s[IZ,ek,e3,ei];rw[hK] at q3;r⟨⟨hF3,(List.getElem?_eq_some_iff.mp ev).1,us3,u3,q3,g1⟩,λx' H' ⟨T,k,x,w,ex',hT,eH,ek',y'⟩=>?_⟩;subst ex';subst eH;h:=y' us3 q3;rw[g1] at this;c this;rw[ev] at ek';c ek';h lf:Le F3 m3 h3.length (upd F3 T (%0a%1b u3)) m3 h3.length:=.frz (R3.TU hT);r⟨_,lf,R3.ny hT,.tup Bi (.cons ?_ (%4P(g2.mono lf)))⟩;rw[kk];e iQ k
        ·h fin:∀{F4:Hp} {m4:Nat→Addr} {h4:%a} {H4:Hp},Le F2 m2 (h.set j' O.hole).length F4 m4 h4.length→#KF4 m4 h4 H4→h4[j']? =&2c→∀F0:Unit,H4 %0o=&0W∧#K(del F4 %0o)m4(h4.set j' %3W)(upd H4 %0o %6d)∧Le F m h.length (del F4 %0o) m4 (h4.set j' %3W).length:=by
          intro F4 m4 h4 H4 l4 R4 e4 _;r7;q8
          ·t6
           rwa[em4] at this
          ·rw[Mr λq=>by rw[q,hn] at z;c z];e&3r.fr a o z
         cases es:Di (IZ kvs y).2 t fb (IZ kvs y).1 0 τ (%5vj') with
         |nx σ4 h4=>
          rw[es] at P
          cases e4:h4[j']? with
          |none=>s[unl,e4] at P;e %j
          |some ob=>
           cases ob with
           |hole=>
            s[unl,e4] at P;intro F4 m4 H4 τ4 l4 R4 N4;g9;r⟨f1,P _ _ _ τ4 f3 f2 ?_⟩;a1
            e N4.unlock (l4.fr _ _ hF2)
           |_=>s[unl,e4] at P;e %j
         |rt v h4=>
          rw[es] at P
          cases e4:h4[j']? with
          |none=>s[unl,e4] at P;e %j
          |some ob=>
           cases ob with
           |hole=>
            s[unl,e4] at P;intro F4 m4 H4 b4 l4 R4 N4;g9;r⟨f1,P _ _ _ b4 f3 f2 ?_⟩;a1
            e N4.unlock (l4.fr _ _ hF2)
           |_=>s[unl,e4] at P;e %j
         |exc c fs=>rw[es] at P;e P
         |bad=>rw[es] at P;e P
     ·g
    ·g
   ·g
  ·g
 ·g
end
end G
end L2
namespace L2
namespace G
open PySem PySem.Spec PyProof.Rows
variable [NC]
%tuE{g:Wd}{E:XK}{c:Str}{C:Addr}{fs:#x}(hc:^K=#h)(h:EX g E c fs):∀d H',H' d=%3td(fs.map λp=>(p.1,%7e))→E ^d %0z H':=by
 o⟨C',e,q⟩:=h;rw[hc] at e;d;e q
end G
end L2
namespace JU
open PySem PySem.Spec PyProof.Rows L2 L2.G
structure Df(K:PySem.W.Frag)(x qual:Str)(st:Stmt)(ps:%u) where
 f:Addr
 fd:FuncData
 F:Fun K x qual st f fd
 b:Binds K fd ps []
structure Lk [NC](g:Wd)(mg:Str→&f) where
 Gs:%E"name_bytes""name_bytes"O4&2m
 RE:mg "name_bytes"=%eGs.f
 Ey:%E"name_code""name_code"QI&2m
 Kh:mg "name_code"=%eEy.f
 Cz:%E"number_code""number_code"Nb ["number","count"]
 F8:mg "number_code"=%eCz.f
 DJ:%E"variables_code""variables_code"JN&3X
 Ll:mg "variables_code"=%eDJ.f
 EY:%E"handler_code""handler_code"MD ["handler"]
 NK:mg "handler_code"=%eEY.f
 Gp:%E"rules_code""rules_code"OZ&3X
 RA:mg "rules_code"=%eGp.f
 EH:%8h"Rules.__init__"JW&6C
 DR:%E"line_spans""line_spans"O5&4i
 IP:mg "line_spans"=%eDR.f
 Cy:%E"wants_action""Rules.wants_action"Hf#C
 An:%8h"Fault.__init__"JZ&2x
 Fy:%E"check_bytes""check_bytes"Nc ["text","start","end"]
 Pj:mg "check_bytes"=%eFy.f
 Ep:%8h"Line.__init__"K3 ["self","words","places","end"]
 Jh:%E"signs_of""signs_of"Tp ["row"]
 Vr:mg "signs_of"=%eJh.f
 Fx:%E"cut_line""cut_line"Tr ["text","span"]
 Mi:mg "cut_line"=%eFx.f
 BL:%E"has_more""Line.has_more"K1#C
 Dg:%E"take""Line.take"QK#C
 A9:%E"spot""Line.spot"QM#C
 FG:%E"take_sort""take_sort"Qt ["line","sorts","before"]
 NG:mg "take_sort"=%eFG.f
 IQ:%E"is_name""is_name"UO%1k
 SV:mg "is_name"=%eIQ.f
 CU:%E"take_name""Line.take_name"JY#C
 Cd:%E"take_new""Line.take_new"K0(&2z"barred")
 CM:%E"plain_number""plain_number"MC%1k
 GP:mg "plain_number"=%eCM.f
 Cn:%E"signed_number""signed_number"KY%1k
 Gg:mg "signed_number"=%eCn.f
 DH:%E"take_signed""Line.take_signed"Iw#C
 Ek:%E"read_variable""read_variable"KZ&1Q
 ML:mg "read_variable"=%eEk.f
 Bk:%E"take_known""Line.take_known"Je ["self","known"]
 Gn:%E"take_event""take_event"OY%9g
 Rz:mg "take_event"=%eGn.f
 A0:%E"take_word""Line.take_word"JX%9x
 Dh:%8h"Handler.__init__"Iz(%5s"event""mode")
 EL:%E"take_handler""take_handler"Mz%9g
 NH:mg "take_handler"=%eEL.f
 Fl:%E"read_behind""read_behind"M9&1Q
 Pg:mg "read_behind"=%eFl.f
 Dl:%E"next_is""Line.next_is"ME%9x
 Hy:%E"part_code""part_code"QG ["names","line","word"]
 TM:mg "part_code"=%eHy.f
 DY:%E"can_begin_part""can_begin_part"JS ["names","word"]
 Lp:mg "can_begin_part"=%eDY.f
 operands:%E"operands""operands"Tq ["kind"]
 Vs:mg "operands"=%eoperands.f
 DV:%E"is_like_number""is_like_number"JQ%1k
 Lo:mg "is_like_number"=%eDV.f
 Du:%E"wrong_word_kind""wrong_word_kind"Jc%1k
 Kg:mg "wrong_word_kind"=%eDu.f
 Cr:%E"take_expression""take_expression"Jd%9g
 GO:mg "take_expression"=%eCr.f
 Be:%E"take_number""Line.take_number"Iy(%5s"least""most")
 DL:%E"take_coil_time""take_coil_time"JO(%9h"needs_hold")
 Lm:mg "take_coil_time"=%eDL.f
 DM:%E"take_belonging""take_belonging"JP(%9h"what")
 Ln:mg "take_belonging"=%eDM.f
 Ea:%E"take_action""take_action"M6%5W
 Kx:mg "take_action"=%eEa.f
 EM:%E"take_guarded""take_guarded"MA%5W
 NI:mg "take_guarded"=%eEM.f
 Fn:%E"read_action""read_action"Na%5W
 Ph:mg "read_action"=%eFn.f
 Hw:%E"read_line""read_line"Qw%5W
 TF:mg "read_line"=%eHw.f
 EK:%E"finish""Line.finish"Nd#C
 ER:%E"read_rules""read_rules"O3 ["setting","text"]
 RD:mg "read_rules"=%eER.f
 Cc:%8h"CodeTooLong.__init__"GC#C
 De:%8h"TooLong.__init__"Iu#C
 EG:%8h"Table.__init__"JV#C
 FK:%E"read_head""read_head"QB^s
 ZT:mg "read_head"=%eFK.f
 DK:%E"take_place""take_place"OX ["line","places","most"]
 IM:mg "take_place"=%eDK.f
 Ed:%E"read_switch""read_switch"M7^s
 Ws:mg "read_switch"=%eEd.f
 FH:%E"read_lamp""read_lamp"Qx^s
 ZR:mg "read_lamp"=%eFH.f
 FL:%E"read_coil""read_coil"QC^s
 ZU:mg "read_coil"=%eFL.f
 BV:%E"take_device_switch""take_device_switch"He^s
 Fs:mg "take_device_switch"=%eBV.f
 Hx:%E"read_held""read_held"Qz^s
 TH:mg "read_held"=%eHx.f
 Ee:%E"read_device""read_device"M8^s
 Wt:mg "read_device"=%eEe.f
 C3:%E"take_above""Line.take_above"Jf(&2z"places")
 FJ:%E"read_kick""read_kick"Qy^s
 ZS:mg "read_kick"=%eFJ.f
 EN:%E"read_table""read_table"O0&4i
 RC:mg "read_table"=%eEN.f
 DG:%8h"Setting.__init__"Iv(%5s"table""shows")
 E9:%8h"Book.__init__"K4#C
 Dx:%E"wants_step""Book.wants_step"Jg#C
 Hv:%E"read_show""read_show"Qv ["book","lamps","line"]
 TC:mg "read_show"=%eHv.f
 Hu:%E"read_step""read_step"Qu ["book","lamps","line"]
 TB:mg "read_step"=%eHu.f
 FN:%E"read_book""read_book"QF ["lamps","text"]
 TJ:mg "read_book"=%eFN.f
 BW:%8h"FaultySetting.__init__"FV#C
 EO:%E"read_setting""read_setting"MB ["table","book","third"]
 NJ:mg "read_setting"=%eEO.f
 HE:%E"make_code""make_code"QJ ["table","book","rules"]
 TN:mg "make_code"=%eHE.f
 judge:%E"judge""judge"Za ["table","book","rules"]
 c8:mg "judge"=%ejudge.f
 LO:Addr
 Te:g.cls "Handler"=some LO
 gb:Cls g.K LO
 SX:mg "Handler"=%eLO
 P9:Mk g.K LO Dh.f
 FD:Addr
 Ap:g.cls "Line"=some FD
 As:Cls g.K FD
 bN:mg "Line"=%eFD
 Yx:Mk g.K FD Ep.f
 ON:Addr
 UD:g.cls "Rules"=some ON
 Yz:Cls g.K ON
 dh:mg "Rules"=%eON
 ZO:Mk g.K ON EH.f
 To:Addr
 YS:g.cls "Book"=some To
 bR:Cls g.K To
 jN:mg "Book"=%eTo
 c6:Mk g.K To E9.f
 Sm:Addr
 dQ:g.cls "Table"=some Sm
 nH:Cls g.K Sm
 c9:mg "Table"=%eSm
 ZN:Mk g.K Sm EG.f
 LN:Addr
 Xq:g.cls "Setting"=some LN
 f9:Cls g.K LN
 W0:mg "Setting"=%eLN
 Vm:Mk g.K LN DG.f
 Fd:Meth g.K ON "wants_action" Cy.f
 BR:Meth g.K FD "has_more" BL.f
 CN:Meth g.K FD "take" Dg.f
 AJ:Meth g.K FD "spot" A9.f
 Eg:Meth g.K FD "take_name" CU.f
 CA:Meth g.K FD "take_new" Cd.f
 IF:Meth g.K FD "take_signed" DH.f
 Bt:Meth g.K FD "take_known" Bk.f
 AV:Meth g.K FD "take_word" A0.f
 D6:Meth g.K FD "next_is" Dl.f
 Bj:Meth g.K FD "take_number" Be.f
 GN:Meth g.K FD "finish" EK.f
 EU:Meth g.K FD "take_above" C3.f
 Gw:Meth g.K To "wants_step" Dx.f
 BE:Addr
 Kr:g.xcl "CodeTooLong"=some BE
 I0:C7 g.K BE Cc.f=true
 M4:%5kg.K Cc.f=true
 M3:%1ig.K BE=true
 Ky:mg "CodeTooLong"=%eBE
 Ew:Addr
 Bm:g.xcl "Fault"=some Ew
 A4:C7 g.K Ew An.f=true
 A6:%5kg.K An.f=true
 A5:%1ig.K Ew=true
 Bp:mg "Fault"=%eEw
 Bl:Addr
 Il:g.xcl "FaultySetting"=some Bl
 Hr:C7 g.K Bl BW.f=true
 KQ:%5kg.K BW.f=true
 KP:%1ig.K Bl=true
 Iq:mg "FaultySetting"=%eBl
 CW:Addr
 Sn:g.xcl "TooLong"=some CW
 PD:C7 g.K CW De.f=true
 UI:%5kg.K De.f=true
 UH:%1ig.K CW=true
 SW:mg "TooLong"=%eCW
 Mo:GV g mg "ACTIONS" (.kd [(.inr "score",(&5c0)),(.inr "set",(&Y1&3J)),(.inr "fire",(&T2"fired")),(.inr "hold",(&T3"held")),(.inr "release",(&T4"coil")),(.inr "show",(&Y5(%4t&3s%5l))),(.inr "hide",(&T6"level")),(.inr "light",(%8p7)),(.inr "dark",(%8p8)),(.inr "begin",(%8r9)),(.inr "finish",(%8r10)),(.inr "run",(&Y11&3N)),(.inr "halt",(&T12"timer")),(.inr "send",(&T13"signal")),(.inr "eject",(&T14"device")),(.inr "stop",(&Y15&2s))])
 NX:&r"BAD_BYTE"2
 FQ:&r"BAD_VALUE"4
 IH:GV g mg "BARRED_VARIABLES" (.ktp [.str "left",.str "in",.str "closed"])
 Lv:&r"BLANK"32
 VC:GV g mg "COUNTED" (.ktp [%8c,%7X,%1h,%0w,%0d])
 OF:GV g mg "EVENTS" (.kd [(.inr "closed",(%1I0)),(.inr "opened",(%1I64)),(.inr "ended",(%6n128)),(.inr "gained",(%4d144)),(.inr "parted",(%4d152)),(.inr "stuck",(%4d160)),(.inr "coin",(#l168)),(.inr "start",(#l169)),(.inr "warning",(#l170)),(.inr "tilt",(#l171)),(.inr "ball",(#l172)),(.inr "lost",(#l173)),(.inr "back",(#l174)),(.inr "sent",(&Y192%0w))])
 Py:&r"FEW_DRAINS"8
 GU:&r"FIRST_OPERATOR"6
 Kl:GV g mg "FIRST_VARIABLE" (.kd [(.inr "var",#r),(.inr "mine",%9G)])
 Jy:&r"GREATEST_NUMBER"2147483647
 GS:&r"HANDLER_COUNT_BYTES"2
 dA:GV g mg "HEAD" (.ktp [.int 84,.int 82,%6r,#r])
 RQ:&r"LAST_COIL"31
 RP:&r"LAST_LAMP"63
 RM:&r"LAST_SIGN"126
 NW:&r"LAST_SWITCH"63
 MR:&r"LEAST_NUMBER"(-2147483648)
 KC:&r"LEFT_EMPTY"9
 TR:&r"LINE_END"10
 MQ:&r"LONGEST_NAME"12
 MP:&r"MOST_ACTIONS"32
 Px:&r"MOST_BALLS"8
 Jx:&r"MOST_BOUNCE"31
 HN:&r"MOST_BYTES"65536
 MO:&r"MOST_DEVICES"8
 NV:&r"MOST_DIGITS"10
 RL:&r"MOST_HELD"8
 RJ:&r"MOST_HOLD"15
 RI:&r"MOST_KICK"255
 Pw:&r"MOST_KICKS"8
 Pu:&r"MOST_LEVEL"15
 MN:GV g mg "MOST_OF_SORT" (.kd [(.inr "rules",%6r),(.inr "var",%9G),(.inr "mine",(.int 32)),(.inr "timer",(.int 16)),(.inr "signal",%9G),(.inr "mode",(.int 15)),(.inr "on",(.int 256))])
 Pt:&r"MOST_PARTS"63
 Pr:&r"MOST_PULSE"1023
 RH:&r"MOST_REST"4095
 Pq:&r"MOST_SHOWS"32
 Pp:&r"MOST_STEPS"16
 IG:&r"MOST_TABLE_BYTES"16384
 Kk:&r"MOST_TIME_book"65535
 H0:&r"MOST_TIME_handler"1023
 Po:GV g mg "NAMED_ONLY" (.ktp [%1h,%0w,%0d])
 Ft:GV g mg "NAMED_PARTS" (.kd [(.inr "left",(%6n2)),(.inr "in",(&Y3%0d)),(.inr "closed",(%1I4))])
 Pn:&r"NAME_BYTES"12
 Pl:GV g mg "NAME_SIGNS" (.str "abcdefghijklmnopqrstuvwxyz0123456789_")
 IU:&r"NOT_ENDED"1
 Mn:&r"NOT_NEW"5
 NU:&r"NOT_PART"5
 Ir:&r"NUMBER_BYTES"4
 NT:GV g mg "NUMBER_PART" #r
 IS:GV g mg "OPERATORS" (.ktp [.str "+",.str "-",.str "*",.str "/",&5B,.str "<",.str "=",.str "&",.str "|"])
 VB:GV g mg "READERS" (.kd [(.inr "table",&2Z),(.inr "switch",&2S),(.inr "lamp",&3a),(.inr "coil",&3e),(.inr "device",&2V),(.inr "kick",&3i)])
 NS:&r"RULES_FAULT"(-6)
 Z8:GV g mg "SIGNS" (.str " !\"#$\n&'()*+,-./0123456789:;<=>?@ABCDEFGHIJKLMNOPQRSTUVWXYZ[\\]^_`abcdefghijklmnopqrstuvwxyz{|}~")
 Lu:GV g mg "SMALL_LETTERS" (.str "abcdefghijklmnopqrstuvwxyz")
 MM:GV g mg "SORTS_reader" (.ktp [%3L,%8c,%7X,%1h,%0w,%0d,%3R])
 NR:GV g mg "SORTS_table" (.ktp [&6O,%8Q,&4T,&3u,%8S,&4Z])
 Pk:&r"TIME_BYTES"2
 Kj:&r"TOO_MANY_PARTS"10
 GR:&r"UNFIT"7
 Mm:&r"UNKNOWN"6
 Ls:&r"VARIABLE_PART"1
 BJ:&r"WRONG_WORD"3
 jJ:mg "all"=none
 c0:mg "dict"=none
 Rw:mg "enumerate"=none
 jI:mg "int"=none
 Cw:mg "len"=none
 cZ:mg "list"=none
 bL:mg "max"=none
 jH:mg "ord"=none
 Vj:mg "range"=none
 jG:mg "zip"=none
 Gv:NA g "actions"
 Ry:NA g "balls"
 HX:NA g "coils"
 HD:NA g "counts"
 E2:NA g "device_coils"
 DQ:NA g "device_switches"
 Gu:NA g "devices"
 Mh:NA g "drained"
 bM:NA g "end"
 Vk:NA g "event"
 DB:NA g "handlers"
 Mg:NA g "holding"
 HM:NA g "kick_coils"
 Fq:NA g "kick_places"
 F7:NA g "lamps"
 IL:NA g "last_sort"
 Yw:NA g "mode"
 NF:NA g "mosts"
 Ux:NA g "name"
 DP:NA g "names"
 OC:NA g "places"
 GL:NA g "shows"
 OB:NA g "starts"
 Li:NA g "steps"
 Ef:NA g "switches"
 Lh:NA g "table"
 HW:NA g "taken"
 ND:NA g "words"
 xi:Addr→Addr
 xcl:∀C,(∃c,^K=#h)→C7 g.K C (xi C)=true
 pS:∀c C,^K=#h→(c="CodeTooLong"∧C=BE)∨(c="Fault"∧C=Ew)∨(c="FaultySetting"∧C=Bl)∨(c="TooLong"∧C=CW)
 Ur:¬NC.nc BE
 WY:NC.nc Ew
 Ke:¬NC.nc Bl
 ZJ:¬NC.nc CW
 Fw:%3oBE BE=some true
 Ij:%3oBE Ew=%5r
 E4:%3oBE Bl=%5r
 Hb:%3oBE CW=%5r
 Ii:%3oEw BE=%5r
 Oa:%3oEw Ew=some true
 Ha:%3oEw Bl=%5r
 LB:%3oEw CW=%5r
 E3:%3oBl BE=%5r
 GZ:%3oBl Ew=%5r
 ED:%3oBl Bl=some true
 Ge:%3oBl CW=%5r
 GY:%3oCW BE=%5r
 Lz:%3oCW Ew=%5r
 Gd:%3oCW Bl=%5r
 JA:%3oCW CW=some true
 RX:g.fn "read_head"=some FK.f
 NY:g.fn "read_switch"=some Ed.f
 RU:g.fn "read_lamp"=some FH.f
 RZ:g.fn "read_coil"=some FL.f
 NZ:g.fn "read_device"=some Ee.f
 RV:g.fn "read_kick"=some FJ.f
end JU
namespace JU
open PySem PySem.Spec PyProof.Rows L2 L2.G
attribute [local irreducible] L2.PE L2.PT L2.PW L2.PA L2.PS L2.PSs L2.PS0 L2.Ou L2.PO L2.PI L2.PG L2.PPs
variable [NC]
section
variable{g:Wd}{mg:Str→Option Value}{base:Heap}
%tLk.pN{α:Type}(L:%q)(cl:List (List Str×α))(h:∀p∈cl,∀c∈p.1,c="CodeTooLong"∨c="Fault"∨c="FaultySetting"∨c="TooLong"):∀p∈cl,∀c∈p.1,∃C,^K=#h:=λp hp c hc=>by
 rcases h p hp c hc with e|e|e|e<;>subst e
 ·e⟨_,L.Kr⟩
 ·e⟨_,L.Bm⟩
 ·e⟨_,L.Il⟩
 ·e⟨_,L.Sn⟩
%tLk.Wx(L:%q){X:Cx}{p:Pos}{c:Str}{C:Addr}(hK:X.K=g.K)(hm:X.mg=mg)(hg:Gl X "Fault")(h:^K=#h):XC X C (.Name "Fault" p) (decide (c∈(["Fault"]:%u))):=by
 r aM hg ((congrFun hm _).trans L.Bp) ?_
 rw[hK]
 rcases L.pS c C h with⟨e,e'⟩|⟨e,e'⟩|⟨e,e'⟩|⟨e,e'⟩<;>subst e<;>subst e'
 ·e L.Ij
 ·e L.Oa
 ·e L.GZ
 ·e L.Lz
%tLk.xt3(L:%q){X:Cx}{p1 p2 p3 p:Pos}{k:Nat}{c:Str}{C:Addr}(hK:X.K=g.K)(hm:X.mg=mg)(g1:Gl X "TooLong")(g2:Gl X "FaultySetting")(g3:Gl X "CodeTooLong")(h:^K=#h):
 XC X C (.Tuple [.Name "TooLong" p1,.Name "FaultySetting" p2,.Name "CodeTooLong" p3] k p) (decide (c∈(["TooLong","FaultySetting","CodeTooLong"]:%u))):=by
 r aL g1 ((congrFun hm _).trans L.SW) g2 ((congrFun hm _).trans L.Iq) g3 ((congrFun hm _).trans L.Ky) ?_
 rw[hK]
 rcases L.pS c C h with⟨e,e'⟩|⟨e,e'⟩|⟨e,e'⟩|⟨e,e'⟩<;>subst e<;>subst e'<;>s[PySem.W.exmAny,L.Fw,L.E4,L.Hb,L.Ii,L.Ha,L.LB,L.ED,L.Ge,L.E3,L.JA,L.Gd,L.GY,Option.bind_eq_bind,Option.bind_some,Option.pure_def,if_true,Bool.false_eq_true,if_false]<;>rfl
%tLk.ue(L:%q){c:Str}{C:Addr}(h:^K=#h)(hc:c∈(["Fault"]:%u)):NC.nc C:=by
 rw[List.mem_singleton] at hc
 subst hc
 have:=L.Bm
 rw[h] at this
 c this
 e L.WY
%tcG{k:&3D}{v:%0i}{p:Pos}{t:&2K}{l:Nat}{env:Env}:swapsWith (.Dict k v p) t l env=%7c:=rfl
%tPc:%y["name","sign"]&2m O4:=⟨rfl,rfl,rfl,by decide+kernel,rfl,by decide+kernel,by decide+kernel⟩
%tWo(L:%q):BC g.P g.w g.K mg base %A 1 L.Gs.f L.Gs.fd &2m (^PIV):=Co L.Gs.F Pc λcdv A outer s H E hr xo=>
 have S:=Pc
 (#V(kJ rfl S.nd (tY i6 (jb (Nt _) mB)) i7 (ky %T) &4w (λ_ _ _ _ _=>Dy (i:=1) S.nd rfl (by first|e &D|e &3z) (by first|e %U|e %1j)) (λ_ _ _ _ _=>(BP kS sC rfl L.jH PyProof.Rows.boot_ord (&z1 1)))))
%tQ3:%y&2m&2m QI:=⟨rfl,rfl,rfl,by decide+kernel,rfl,by decide+kernel,by decide+kernel⟩
%tMd(L:%q):BC g.P g.w g.K mg base %A 2 L.Ey.f L.Ey.fd &2m (^PCk):=Co L.Ey.F Q3 λcdv A outer s H E hr xo=>
 have S:=Q3
 (#V(JK SO Tj (%K(Wo L)L.RE L.Gs.F.kp L.Gs.b(&z0 0)) (JK qY sA (%8IBb) (JK U5 %0r (&GL.Pn) (%3y0 0)))))
%tNl:%y["number","count","step"] ["number","count"]Nb:=⟨rfl,rfl,rfl,by decide+kernel,rfl,by decide+kernel,by decide+kernel⟩
%tGK(L:%q):BC g.P g.w g.K mg base %A 1 L.Cz.f L.Cz.fd ["number","count"] (^DBs):=Co L.Cz.F Nl λcdv A outer s H E hr xo=>
 have S:=Nl
 (#V(kJ rfl S.nd (Kc ja (Kc cU (Nt _) (Kc cU (Zt _) (Nt _))) (Zt _)) mz (gz rfl L.Vj (&z1 1)) &4w (λ_ _ _ _ _=>Dy (i:=2) S.nd rfl (by first|e &D|e &3z) (by first|e %U|e %1j)) (λ_ _ _ _ _=>(JK q0 %0r (JK qX (dY (c:=λ_ j=>decide (0≤j)) (λ_ _ h=>of_decide_eq_true h) (λ_ _ _ _ _=>.int)) %T (JK qZ (dY (c:=cq) (λ_ _ h=>ou h) (λ_ _ _ _ _=>.int)) Bb %F)) Bb))))
%tJ3:%y["rules","code","name","start"]&3X JN:=⟨rfl,rfl,rfl,by decide+kernel,rfl,by decide+kernel,by decide+kernel⟩
%tRg(L:%q):BC g.P g.w g.K mg base %A 3 L.DJ.f L.DJ.fd &3X (^PCf):=Co L.DJ.F J3 λcdv A outer s H E hr xo=>
 have S:=J3
 (%0B(Az (i:=1) S.nd rfl &D %8F)(gu CV rfl rfl L.jG (Pur.quiet (Kc SI (Uw (Nt _)) (Zt _))) (Pur.quiet (Uw (Nt _))) (%6g%7k Bu) (%JL.OB) (jh rfl (Rc (Dy (i:=2) S.nd rfl &D) (Rc (Dy (i:=3) S.nd rfl &D) cW))) dX (Ae (AO (%6Srfl Ez EF%n(&m(%K(Md L)L.Kh L.Ey.F.kp L.Ey.b(&z2 2))))) (Aj (AO (%6Srfl Ez EF%n(&m(%K(GK L)L.F8 L.Cz.F.kp L.Cz.b(^a3 3(&m(&GL.Ir))))))))))%n)
%tMJ:%y["handler","code","action"] ["handler"]MD:=⟨rfl,rfl,rfl,by decide+kernel,rfl,by decide+kernel,by decide+kernel⟩
%tUo(L:%q):BC g.P g.w g.K mg base %A 1 L.EY.f L.EY.fd ["handler"] (^PDp):=Co L.EY.F MJ λcdv A outer s H E hr xo=>
 have S:=MJ
 (%0B(Az (i:=1) S.nd rfl &D (LD (Ab (%JL.Vk) (Ab (%JL.Yw) (%5e(%6uL.Gv)Bb)))))(KD CV rfl (Mq rfl (%JL.Gv)) (Dy (i:=2) S.nd rfl &D) HR (Aj (AO (%6Srfl Ez EF%n(&z2 2)))))%n)
%tO9:%y["rules","code","sort","handler","name"]&3X OZ:=⟨rfl,rfl,rfl,by decide+kernel,rfl,by decide+kernel,by decide+kernel⟩
%tWl(L:%q):BC g.P g.w g.K mg base %A 4 L.Gp.f L.Gp.fd &3X (^PEh):=Co L.Gp.F O9 λcdv A outer s H E hr xo=>
 have S:=O9
 (^g(Az (i:=1) S.nd rfl &D (VO YN gO rfl L.cZ (by decide+kernel) (&m(&GL.dA))))(AO (%6Srfl Ez EF%n(&m(%K(Md L)L.Kh L.Ey.F.kp L.Ey.b(&2QL.Ux)))))(AO (%6Srfl Ez EF%n(&m(kJ rfl S.nd (Kc SI (Uw (Nt _)) (Nt _)) qA (cg rfl (&GL.VC)) &4w (λ_ _ _ _ _=>Dy (i:=2) S.nd rfl (by first|e &D|e &3z) (by first|e %U|e %1j)) (λ_ _ _ _ _=>(%8z(%JL.HD)))))))(AO (%7Nrfl E5 E7%n(&mBb)))(^g(AO (%6Srfl Ez EF%n(&m(%K(GK L)L.F8 L.Cz.F.kp L.Cz.b(%4l(%6uL.DB)L.GS)))))(AO (%6Srfl Ez EF%n(&m(%K(Rg L)L.Ll L.DJ.F.kp L.DJ.b(&z0 0)))))(KD CV rfl (cg rfl (&GL.Po)) (Dy (i:=2) S.nd rfl &D) HR (Aj (b9 CV rfl (Pur.quiet (Kc SI (Uw (Nt _)) (Nt _))) (%8z%7k) (Dy (i:=4) S.nd rfl &D) HR (Aj (AO (%6Srfl Ez EF%n(&m(%K(Md L)L.Kh L.Ey.F.kp L.Ey.b(&z4 4)))))))))(KD CV rfl (Mq rfl (%JL.DB)) (Dy (i:=3) S.nd rfl &D) HR (Aj (AO (%6Srfl Ez EF%n(&m(%K(Uo L)L.NK L.EY.F.kp L.EY.b(&z3 3)))))))(#V%n)))
%tJ9:%y&6C&6C JW:=⟨rfl,rfl,rfl,by decide+kernel,rfl,by decide+kernel,by decide+kernel⟩
%tRn(L:%q):BC g.P g.w g.K mg base %A 1 L.EH.f L.EH.fd &6C (^DCF):=Co L.EH.F J9 λcdv A outer s H E hr xo=>
 have S:=J9
 (Ae (#oL.Lh(%6ML.Lh 1 1)) (%8O(#oL.Ux Bu)(#oL.IL LC)(^g(by r B8 ?_ ?_ ?_ ?_ ?_;e rfl;e L.HD;e%T;e(by r cj ?_ ?_ ?_ ?_ ?_;rotate_left;rfl;rfl;e List.cons_ne_nil _ _;e Nat.le_of_ble_eq_true rfl;r Eu ?_ ?_ ?_;e Bu;e Bb;r Eu ?_ ?_ ?_;e Bu;e Bb;r Eu ?_ ?_ ?_;e Bu;e Bb;r Eu ?_ ?_ ?_;e Bu;e Bb;r Eu ?_ ?_ ?_;e Bu;e Bb;r Eu ?_ ?_ ?_;e Bu;e Bb;r Eu ?_ ?_ ?_;e Bu;e Bb;e cb);e cG)(#oL.DP(VO gD gQ rfl L.c0 (by decide+kernel) (&m(%6ML.DP 1 1))))(AO (by r kF ?_ ?_ ?_ ?_ ?_ ?_ ?_ ?_;e rfl;e%7k;e(by r &m?_;e(by r cj ?_ ?_ ?_ ?_ ?_;rotate_left;rfl;rfl;e List.cons_ne_nil _ _;e Nat.le_of_ble_eq_true rfl;r Eu ?_ ?_ ?_;e Bu;e Hc;r Eu ?_ ?_ ?_;e Bu;e Hc;r Eu ?_ ?_ ?_;e Bu;e Hc;r Eu ?_ ?_ ?_;e Bu;e Hc;e cb));rfl;rfl;rfl;rfl;rfl))(#oL.OB%8F)(Aj (#oL.DB%8F)))))
%tPd:%y["text","spans","start","place","byte"]&4i O5:=⟨rfl,rfl,rfl,by decide+kernel,rfl,by decide+kernel,by decide+kernel⟩
%tKt(L:%q):BC g.P g.w g.K mg base %A 1 L.DR.f L.DR.fd &4i (^PCs):=Co L.DR.F Pd λcdv A outer s H E hr xo=>
 have S:=Pd
 (^g(Az (i:=1) S.nd rfl &D %8F)(%0mBb)(KD CV rfl (og rfl rfl L.Rw (&z0 0)) (jh rfl (Rc (Dy (i:=3) S.nd rfl &D) (Rc (Dy (i:=4) S.nd rfl &D) cW))) dX (Aj (Bh (%0kCY C1(#j4 4)L.TR) (Ae (AO (%7Nrfl E5 E7%n(&m(TX (#X2 2 3 3))))) (Aj (%0m(JK PZ %0r &I Bb)))) AX)))(&A(%5HWV^R(%3y0 0))(AO (%7Nrfl E5 E7%n(&m(TX (^a2 2(&m(%3y0 0))))))))(#V%n))
%tHi:%6qHf:=⟨rfl,rfl,rfl,by decide+kernel,rfl,by decide+kernel,by decide+kernel⟩
%tHl(L:%q):BC g.P g.w g.K mg base %A 1 L.Cy.f L.Cy.fd #C (^PBU):=Co L.Cy.F Hi λcdv A outer s H E hr xo=>
 have S:=Hi
 (#V(kL (Sb Kd ^R (%6uL.DB) Bb %8T) (dN (Sb CY C1 (&6b(&m(AM rfl L.Gv (%0Q(%JL.DB)(gB PK Th Bb))))) Bb %8T))))
%tQ7:%y&2x&2x JZ:=⟨rfl,rfl,rfl,by decide+kernel,rfl,by decide+kernel,by decide+kernel⟩
%tAk(L:%q):FnN g.P g.w g.K mg base 1 L.An.f L.An.fd &2x (spX L.Ew 2 λvs=>match vs with|[a,b]=>[("kind",a),("place",b)]|_=>[]):=kh L.An.F L.A4 Q7 rfl
%tNm:%y["text","start","end","before","place","byte"] ["text","start","end"]Nc:=⟨rfl,rfl,rfl,by decide+kernel,rfl,by decide+kernel,by decide+kernel⟩
%tVe(L:%q):BC g.P g.w g.K mg base %A 3 L.Fy.f L.Fy.fd ["text","start","end"] (#L3 Ga):=Co L.Fy.F Nm λcdv A outer s H E hr xo=>
 have S:=Nm
 (Ae (^B(&GL.Lv)) (Aj (KD CV rfl (gy rfl L.Vj (#X1 1 2 2)) (Dy (i:=4) S.nd rfl &D) HR (Ae (Az (i:=5) S.nd rfl &D (%0Q%T(#j4 4))) (%4s(&A(%4X(%0kWV^R(#j5 5)L.Lv)(%0kKd^R(#j5 5)L.RM))(Ba xo L.Bm AS L.A4 L.A6 L.A5 &N %h L.An.b rfl (by decide) rfl L.Bp (Ab (&GL.NX) (&z4 4))))(&A(PW.pt (S8 (%0kCY C1(#j5 5)L.Lv) (OI (%4X(%0kCY C1&I L.Lv)(#RCY C1(JK PZ %0r (#j4 4) Bb)%F)))))(Ba xo L.Bm AS L.A4 L.A6 L.A5 &N %h L.An.b rfl (by decide) rfl L.Bp (Ab (&GL.NX) (&z4 4))))(^B(#j5 5)))))))
%tK9:%y["self","words","places","end"] ["self","words","places","end"]K3:=⟨rfl,rfl,rfl,by decide+kernel,rfl,by decide+kernel,by decide+kernel⟩
%tLc(L:%q):BC g.P g.w g.K mg base %A 1 L.Ep.f L.Ep.fd ["self","words","places","end"] (#L4 Ct):=Co L.Ep.F K9 λcdv A outer s H E hr xo=>
 have S:=K9
 (Ae (#oL.ND%n) (%4s(#oL.OC%F)(#oL.bM&I)(#oL.HW Bb)))
%tTs:%y["row","byte"] ["row"]Tp:=⟨rfl,rfl,rfl,by decide+kernel,rfl,by decide+kernel,by decide+kernel⟩
%tZz(L:%q):BC g.P g.w g.K mg base %A 1 L.Jh.f L.Jh.fd ["row"] (^PJz):=Co L.Jh.F Ts λcdv A outer s H E hr xo=>
 have S:=Ts
 (#V(kH PySem.F.slot_str_join PySem.F.type_str_join nA oO Bu (kJ rfl S.nd (mC (Kc ja (Nt _) (Zt _))) qB (Mq rfl %T) &4w (λ_ _ _ _ _=>Dy (i:=1) S.nd rfl (by first|e &D|e &3z) (by first|e %U|e %1j)) (λ_ _ _ _ _=>(%0Q(&GL.Z8)(JK U5 %0r %n (&GL.Lv)))))))
%tTu:%y["text","span","start","end","words","places","place","word"] ["text","span"]Tr:=⟨rfl,rfl,rfl,by decide+kernel,rfl,by decide+kernel,by decide+kernel⟩
%tNw(L:%q):BC g.P g.w g.K mg base %A 4 L.Fx.f L.Fx.fd ["text","span"] (^DBF):=Co L.Fx.F Tu λcdv A outer s H E hr xo=>
 have S:=Tu
 (Ae (%0m(%0Q%n Bb)) (^g(^B(%0Q%n Bb))(&A(#RCY C1&I(%3y0 0))(Ba xo L.Bm AS L.A4 L.A6 L.A5 &N %h L.An.b rfl (by decide) rfl L.Bp (Ab (&GL.IU) (&z3 3))))(AO (%K(Ve L)L.Pj L.Fy.F.kp L.Fy.b(^a0 0(#X2 2 3 3))))(%1a(%5HCY C1&I)(Tb L.Ap (L.Yx) (Lc L) %h xo rfl L.bN L.Ep.b (Ab (II Af) (Ab (II Af) (&z3 3))))AX)(^g(%5N(kH PySem.F.slot_str_split PySem.F.type_str_split jL k9 (%K(Zz L)L.Vr L.Jh.F.kp L.Jh.b(&m(R9 lW sy %T (OJ %F) (OJ &I)))) Bu))(Az (i:=5) S.nd rfl &D %8F)(Az (i:=6) S.nd rfl &D %F)(KD CV rfl (Mq rfl (#j4 4)) (Dy (i:=7) S.nd rfl &D) HR (Ae (AO (%7Nrfl E5 E7(#j5 5)(&z6 6))) (Aj (YJ (i:=6) S.nd rfl &D YB %0r (JK PZ %0r (%3y7 7) Bb)))))(#V(Tb L.Ap (L.Yx) (Lc L) %h xo rfl L.bN L.Ep.b (^a4 4(#X5 5 3 3)))))))
%tK8:%6qK1:=⟨rfl,rfl,rfl,by decide+kernel,rfl,by decide+kernel,by decide+kernel⟩
%tBZ(L:%q):BC g.P g.w g.K mg base %A 1 L.BL.f L.BL.fd #C (^PBg):=Co L.BL.F K8 λcdv A outer s H E hr xo=>
 have S:=K8
 (#V(Sb WV ^R (%JL.HW) (%6uL.ND) %8T))
%tQ5:%6qQK:=⟨rfl,rfl,rfl,by decide+kernel,rfl,by decide+kernel,by decide+kernel⟩
%tDj(L:%q):BC g.P g.w g.K mg base %A 3 L.Dg.f L.Dg.fd #C (^PBw):=Co L.Dg.F Q5 λcdv A outer s H E hr xo=>
 have S:=Q5
 (%0B(&A(S9 (Dd (%1WL.BR(BZ L)L.BL.b%T)))(Ba xo L.Bm AS L.A4 L.A6 L.A5 &N %h L.An.b rfl (by decide) rfl L.Bp (%7KL.BJ(%JL.bM))))(Ta rfl L.HW YD %0r %T Bb)(%0Q(%JL.ND)(JK U5 %0r (%JL.HW) Bb)))
%tQ6:%6qQM:=⟨rfl,rfl,rfl,by decide+kernel,rfl,by decide+kernel,by decide+kernel⟩
%tAL(L:%q):BC g.P g.w g.K mg base %A 1 L.A9.f L.A9.fd #C (^PAv):=Co L.A9.F Q6 λcdv A outer s H E hr xo=>
 have S:=Q6
 (#V(%0Q(%JL.OC)(JK U5 %0r (%JL.HW) Bb)))
%tQP:%y["line","sorts","before","word","allowed"] ["line","sorts","before"]Qt:=⟨rfl,rfl,rfl,by decide+kernel,rfl,by decide+kernel,by decide+kernel⟩
%tRh(L:%q):BC g.P g.w g.K mg base %A 4 L.FG.f L.FG.fd ["line","sorts","before"] (#L3 CB):=Co L.FG.F QP λcdv A outer s H E hr xo=>
 have S:=QP
 (Ae (^B(%1WL.CN(Dj L)L.Dg.b%T)) (%0B(Bh (%5HSM Ti LC) (Aj (%5N(R9 iC lg %n Uz (OJ Bb)))) (Aj (%5N(R9 iC lg %n (OJ (BP (gH rfl) sE rfl L.bL PyProof.Rows.boot_max (%5e(kG rfl %n (&z2 2))Bb))) Uz))))(&A(&2PRf(aH true)&I(#j4 4))(Ba xo L.Bm AS L.A4 L.A6 L.A5 &N %h L.An.b rfl (by decide) rfl L.Bp (%3ZL.BJ L xo%T)))&I))
%tUX:%y["word","sign"]%1k UO:=⟨rfl,rfl,rfl,by decide+kernel,rfl,by decide+kernel,by decide+kernel⟩
%tVd(L:%q):BC g.P g.w g.K mg base %A 1 L.IQ.f L.IQ.fd %1k (^PLy):=Co L.IQ.F UX λcdv A outer s H E hr xo=>
 have S:=UX
 (Ae (%1a(%4X(%0kKd^R(%3y0 0)L.MQ)(&2PWg lj(%0Q%T Bb)(&GL.Lu)))kK AX) (#V(BP (rY rfl) sG rfl L.jJ PyProof.Rows.boot_all (&m(kJ rfl S.nd (Kc i9 (Nt _) (Zt _)) i7 (ky %T) &4w (λ_ _ _ _ _=>Dy (i:=1) S.nd rfl (by first|e &D|e &3z) (by first|e %U|e %1j)) (λ_ _ _ _ _=>(Sb bE lj %n (&GL.Pl) (by with_unfolding_all rfl))))))))
%tKb:%y%9x#C JY:=⟨rfl,rfl,rfl,by decide+kernel,rfl,by decide+kernel,by decide+kernel⟩
%tFf(L:%q):BC g.P g.w g.K mg base %A 4 L.CU.f L.CU.fd #C (^PBx):=Co L.CU.F Kb λcdv A outer s H E hr xo=>
 have S:=Kb
 (%0B(Az (i:=1) S.nd rfl &D (%1WL.CN(Dj L)L.Dg.b%T))(&A(S9 (Dd (%K(Vd L)L.SV L.IQ.F.kp L.IQ.b(&z1 1))))(Ba xo L.Bm AS L.A4 L.A6 L.A5 &N %h L.An.b rfl (by decide) rfl L.Bp (%3ZL.FQ L xo%T)))%n)
%tK7:%y["self","known","barred","name"](&2z"barred")K0:=⟨rfl,rfl,rfl,by decide+kernel,rfl,by decide+kernel,by decide+kernel⟩
%tC8(L:%q):BC g.P g.w g.K mg base %A 5 L.Cd.f L.Cd.fd (&2z"barred") (#L3 By):=Co L.Cd.F K7 λcdv A outer s H E hr xo=>
 have S:=K7
 (Ae (^B(%1WL.Eg(Ff L)L.CU.b%T)) (%0B(&A(&2PSN(aH false)&I%F)(Ba xo L.Bm AS L.A4 L.A6 L.A5 &N %h L.An.b rfl (by decide) rfl L.Bp (%3ZL.FQ L xo%T)))(&A(Qh ^J &I %n)(Ba xo L.Bm AS L.A4 L.A6 L.A5 &N %h L.An.b rfl (by decide) rfl L.Bp (%3ZL.Mn L xo%T)))&I))
%tMI:%y%1k%1k MC:=⟨rfl,rfl,rfl,by decide+kernel,rfl,by decide+kernel,by decide+kernel⟩
%tIo(L:%q):BC g.P g.w g.K mg base %A 1 L.CM.f L.CM.fd %1k (^PEB):=Co L.CM.F MI λcdv A outer s H E hr xo=>
 have S:=MI
 (%0B(%1a(%4X(S9 (Dd (rW PySem.F.slot_str_isdigit PySem.F.type_str_isdigit P8 cA %T)))(%0kKd^R(%3y0 0)L.NV))LC AX)(%1a(PW.pt (S8 (Dd (kH PySem.F.slot_str_startswith PySem.F.type_str_startswith Ku Tg %T Bu)) (OI (#RpB pP%T Bu))))LC AX)(VO YR oP rfl L.jI (by decide+kernel) (&z0 0)))
%tK5:%y["word","number"]%1k KY:=⟨rfl,rfl,rfl,by decide+kernel,rfl,by decide+kernel,by decide+kernel⟩
%tHA(L:%q):BC g.P g.w g.K mg base %A 2 L.Cn.f L.Cn.fd %1k (^PD7):=Co L.Cn.F K5 λcdv A outer s H E hr xo=>
 have S:=K5
 (Ae (Bh (Dd (kH PySem.F.slot_str_startswith PySem.F.type_str_startswith Ku Tg %T Bu)) (%0B(Az (i:=1) S.nd rfl &D (%K(Io L)L.GP L.CM.F.kp L.CM.b(&m(R9 iD lh %T (OJ Bb) Uz))))(%1a(PW.pt (FX (#RSM Ti%n LC) (FX (#RCY C1%n Bb) (Fe (%0kWV^R(gB PK Th %n)L.MR)))))LC AX)(gB PK Th %n)) AX) (%0B(Az (i:=1) S.nd rfl &D (%K(Io L)L.GP L.CM.F.kp L.CM.b(&z0 0)))(%1a(%4X(#RSM Ti%n LC)(%0kKd^R%n L.Jy))LC AX)%n))
%tIB:%y["self","number"]#C Iw:=⟨rfl,rfl,rfl,by decide+kernel,rfl,by decide+kernel,by decide+kernel⟩
%tOT(L:%q):BC g.P g.w g.K mg base %A 4 L.DH.f L.DH.fd #C (^PDX):=Co L.DH.F IB λcdv A outer s H E hr xo=>
 have S:=IB
 (%0B(Az (i:=1) S.nd rfl &D (%K(HA L)L.Gg L.Cn.F.kp L.Cn.b(&m(%1WL.CN(Dj L)L.Dg.b%T))))(&A(#RSM Ti%n LC)(Ba xo L.Bm AS L.A4 L.A6 L.A5 &N %h L.An.b rfl (by decide) rfl L.Bp (%3ZL.FQ L xo%T)))%n)
%tK6:%y["rules","line","sort","known","name"]&1Q KZ:=⟨rfl,rfl,rfl,by decide+kernel,rfl,by decide+kernel,by decide+kernel⟩
%tSQ(L:%q):BC g.P g.w g.K mg base %A 6 L.Ek.f L.Ek.fd &1Q (#L3 D8):=Co L.Ek.F K6 λcdv A outer s H E hr xo=>
 have S:=K6
 (Ae (^B(%6g%7k Bu)) (%4s(%5N(Bn L.Ap L.As L.CA (C8 L) %h xo L.Cd.b %n (^a3 3(&m(&GL.IH)))))(AO (%7Nrfl E5 E7(%JL.OB)(&m(%6KL.IF(OT L)L.DH.b))))(Gi ^J &I (#j4 4) (JK PZ %0r (Ms %4Z (&GL.Kl) %F) (%8z(%JL.HD))))))
%tJl:%y(&2z"name") ["self","known"]Je:=⟨rfl,rfl,rfl,by decide+kernel,rfl,by decide+kernel,by decide+kernel⟩
%tBA(L:%q):BC g.P g.w g.K mg base %A 5 L.Bk.f L.Bk.fd ["self","known"] (^DAl):=Co L.Bk.F Jl λcdv A outer s H E hr xo=>
 have S:=Jl
 (%0B(%0m(%1WL.Eg(Ff L)L.CU.b%T))(&A(Xh ^J %F %n)(Ba xo L.Bm AS L.A4 L.A6 L.A5 &N %h L.An.b rfl (by decide) rfl L.Bp (%3ZL.Mm L xo%T)))(%8z%n))
%tO8:%y["names","line","word","lowest","sort"]%9g OY:=⟨rfl,rfl,rfl,by decide+kernel,rfl,by decide+kernel,by decide+kernel⟩
%tWk(L:%q):BC g.P g.w g.K mg base %A 6 L.Gn.f L.Gn.fd %9g (^DGX):=Co L.Gn.F O8 λcdv A outer s H E hr xo=>
 have S:=O8
 (Ae (%0m(%6KL.CN(Dj L)L.Dg.b)) (^g(&A(Xg %4Z %F (&GL.OF))(Ba xo L.Bm AS L.A4 L.A6 L.A5 &N %h L.An.b rfl (by decide) rfl L.Bp (%4nL.BJ L xo)))(^B(%0Q(Ms %4Z (&GL.OF) %F)Bb))(%5N(%0Q(Ms %4Z (&GL.OF) %F)Bb))(%1a(#RSM Ti(#j4 4)LC)&I AX)(#V(JK PZ %0r &I (Bn L.Ap L.As L.Bt (BA L) %h xo L.Bk.b %n (&m(%6g%T(#j4 4))))))))
%tKa:%y%9x%9x JX:=⟨rfl,rfl,rfl,by decide+kernel,rfl,by decide+kernel,by decide+kernel⟩
%tA2(L:%q):BC g.P g.w g.K mg base %A 4 L.A0.f L.A0.fd %9x (^DAA):=Co L.A0.F Ka λcdv A outer s H E hr xo=>
 have S:=Ka
 (Aj (&A(#RpB pP(%1WL.CN(Dj L)L.Dg.b%T)%n)(Ba xo L.Bm AS L.A4 L.A6 L.A5 &N %h L.An.b rfl (by decide) rfl L.Bp (%3ZL.BJ L xo%T))))
%tID:%y(%5s"event""mode")(%5s"event""mode")Iz:=⟨rfl,rfl,rfl,by decide+kernel,rfl,by decide+kernel,by decide+kernel⟩
%tIE(L:%q):BC g.P g.w g.K mg base %A 1 L.Dh.f L.Dh.fd (%5s"event""mode") (#L3 Cb):=Co L.Dh.F ID λcdv A outer s H E hr xo=>
 have S:=ID
 (%4s(#oL.Vk%n)(#oL.Yw%F)(#oL.Gv%8F))
%tMF:%y["names","line","event"]%9g Mz:=⟨rfl,rfl,rfl,by decide+kernel,rfl,by decide+kernel,by decide+kernel⟩
%tUk(L:%q):BC g.P g.w g.K mg base %A 7 L.EL.f L.EL.fd %9g (^DFu):=Co L.EL.F MF λcdv A outer s H E hr xo=>
 have S:=MF
 (Ae (%0m(%K(Wk L)L.Rz L.Gn.F.kp L.Gn.b(#X0 0 1 1))) (%0B(%1a(S9 (Dd (%6KL.BR(BZ L)L.BL.b)))(Tb L.Te (L.P9) (IE L) %h xo rfl L.SX L.Dh.b (^a2 2(&mBb)))AX)(AO (Bn L.Ap L.As L.AV %1T %h xo L.A0.b %n ^L))(Tb L.Te (L.P9) (IE L) %h xo rfl L.SX L.Dh.b (^a2 2(&m(JK PZ %0r (Bn L.Ap L.As L.Bt (BA L) %h xo L.Bk.b %n (&m(%6g%T Bu))) Bb))))))
%tNi:%y["rules","line","sort","name"]&1Q M9:=⟨rfl,rfl,rfl,by decide+kernel,rfl,by decide+kernel,by decide+kernel⟩
%tVb(L:%q):BC g.P g.w g.K mg base %A 8 L.Fl.f L.Fl.fd &1Q (#L3 Br):=Co L.Fl.F Ni λcdv A outer s H E hr xo=>
 have S:=Ni
 (Aj (Bh (%5HCY C1 Bu) (Aj (#oL.Ux(%6KL.Eg(Ff L)L.CU.b))) (Aj (Bh (%4X(%5HCY C1 Bu)(%5HCY C1 Bu)) (Aj (AO (%K(SQ L)L.ML L.Ek.F.kp L.Ek.b(^a0 0(#X1 1 2 2))))) (Aj (Bh (%5HCY C1 Bu) (Aj (AO (%7Nrfl E5 E7(%JL.DB)(&m(%K(Uk L)L.NH L.EL.F.kp L.EL.b(Ab %7k (&z1 1))))))) (Ae (^B(Bn L.Ap L.As L.CA (C8 L) %h xo L.Cd.b %n (%5e(%8z%7k)(TX Af)))) (Aj (Gi ^J (%8z%7k) &I (%8z(%JL.HD)))))))))))
%tMK:%y%9x%9x ME:=⟨rfl,rfl,rfl,by decide+kernel,rfl,by decide+kernel,by decide+kernel⟩
%tE1(L:%q):BC g.P g.w g.K mg base %A 2 L.Dl.f L.Dl.fd %9x (^DAY):=Co L.Dl.F MK λcdv A outer s H E hr xo=>
 have S:=MK
 (#V(kL (%1WL.BR(BZ L)L.BL.b%T) (dN (Sb CY C1 (%0Q(%JL.ND)(%JL.HW)) %n %8T))))
%tQ2:%y["names","line","word","kind","sort"] ["names","line","word"]QG:=⟨rfl,rfl,rfl,by decide+kernel,rfl,by decide+kernel,by decide+kernel⟩
%tYs(L:%q):BC g.P g.w g.K mg base %A 6 L.Hy.f L.Hy.fd ["names","line","word"] (#L3 BS):=Co L.Hy.F Q2 λcdv A outer s H E hr xo=>
 have S:=Q2
 (^g(%1a(%5HCY C1 Bu)(%8I(&GL.NU))AX)(%1a(&2PSN(aH false)%F(&GL.IS))(%8I(JK PZ %0r (&GL.GU) (kG rfl (&GL.IS) (&z2 2))))AX)(Bh (kn %4Z %F (&GL.Ft)) (%0B(^B(%0Q(Ms %4Z (&GL.Ft) %F)Bb))(%5N(%0Q(Ms %4Z (&GL.Ft) %F)Bb))(II (^a3 3(&m(Bn L.Ap L.As L.Bt (BA L) %h xo L.Bk.b %n (&m(%6g%T(#j4 4)))))))) AX)(%1a(Qh ^J %F (%6g%T Bu))(II (%7KL.Ls(%8z(%6g%T Bu))))AX)(#V(JK SO Tj (%8I(&GL.NT)) (%K(GK L)L.F8 L.Cz.F.kp L.Cz.b(%4l(%K(HA L)L.Gg L.Cn.F.kp L.Cn.b(&z2 2))L.Ir)))))
%tJ7:%y["names","word"] ["names","word"]JS:=⟨rfl,rfl,rfl,by decide+kernel,rfl,by decide+kernel,by decide+kernel⟩
%tRl(L:%q):BC g.P g.w g.K mg base %A 3 L.DY.f L.DY.fd ["names","word"] (^DDD):=Co L.DY.F J7 λcdv A outer s H E hr xo=>
 have S:=J7
 (Ae (%1a(PW.pt (FX (#RCY C1%n Bu) (FX (&2PSN(aH false)%n(&GL.IS)) (Fe (kn %4Z %n (&GL.Ft))))))kK AX) (#V(vE (uJ ^J %n (%6g%T Bu)) (dN (Sb nj oN (%K(HA L)L.Gg L.Cn.F.kp L.Cn.b(&z1 1)) LC %8T)))))
%tTt:%y["kind"] ["kind"]Tq:=⟨rfl,rfl,rfl,by decide+kernel,rfl,by decide+kernel,by decide+kernel⟩
%tZA(L:%q):BC g.P g.w g.K mg base %A 1 L.operands.f L.operands.fd ["kind"] (^PGy):=Co L.operands.F Tt λcdv A outer s H E hr xo=>
 have S:=Tt
 (Ae (%1a(%0kub^R%T L.GU)Bb AX) (#V(uI (%0kCY C1%T L.NU) Bb Bb)))
%tJ6:%y%1k%1k JQ:=⟨rfl,rfl,rfl,by decide+kernel,rfl,by decide+kernel,by decide+kernel⟩
%tRk(L:%q):BC g.P g.w g.K mg base %A 1 L.DV.f L.DV.fd %1k (^PFU):=Co L.DV.F J6 λcdv A outer s H E hr xo=>
 have S:=J6
 (Ae (%1a(Dd (kH PySem.F.slot_str_startswith PySem.F.type_str_startswith Ku Tg %T Bu))(rW PySem.F.slot_str_isdigit PySem.F.type_str_isdigit P8 cA (R9 iD lh %T (OJ Bb) Uz))AX) (#V(rW PySem.F.slot_str_isdigit PySem.F.type_str_isdigit P8 cA %T)))
%tJj:%y%1k%1k Jc:=⟨rfl,rfl,rfl,by decide+kernel,rfl,by decide+kernel,by decide+kernel⟩
%tP6(L:%q):BC g.P g.w g.K mg base %A 2 L.Du.f L.Du.fd %1k (^PDt):=Co L.Du.F Jj λcdv A outer s H E hr xo=>
 have S:=Jj
 (%0B(%1a(Dd (%K(Rk L)L.Lo L.DV.F.kp L.DV.b(&z0 0)))(&GL.FQ)AX)(%1a(Dd (%K(Vd L)L.SV L.IQ.F.kp L.IQ.b(&z0 0)))(&GL.Mm)AX)(&GL.BJ))
%tJk:%y["names","line","code","parts","wanted","word","part"]%9g Jd:=⟨rfl,rfl,rfl,by decide+kernel,rfl,by decide+kernel,by decide+kernel⟩
%tJq(L:%q):BC g.P g.w g.K mg base %A 7 L.Cr.f L.Cr.fd %9g (^DCP):=Co L.Cr.F Jk λcdv A outer s H E hr xo=>
 have S:=Jk
 (^g(%0m%8F)(^BBb)(%5NBb)(R6 fuel CV (#RKd^R(#j4 4)Bb) (%8O(Az (i:=5) S.nd rfl &D (%6KL.CN(Dj L)L.Dg.b))(&A(S9 (Dd (%K(Rl L)L.Lp L.DY.F.kp L.DY.b(#X0 0 5 5))))(Ba xo L.Bm AS L.A4 L.A6 L.A5 &N %h L.An.b rfl (by decide) rfl L.Bp (%5e(%K(P6 L)L.Kg L.Du.F.kp L.Du.b(&z5 5))(AK L.Ap L.As L.AJ (AL L) %h xo L.A9.b %n))))(^g(&A(%0kCY C1&I L.Pt)(Ba xo L.Bm AS L.A4 L.A6 L.A5 &N %h L.An.b rfl (by decide) rfl L.Bp (%4nL.Kj L xo)))(YJ (i:=3) S.nd rfl &D YB %0r Bb)(Az (i:=6) S.nd rfl &D (%K(Ys L)L.TM L.Hy.F.kp L.Hy.b(^a0 0(#X1 1 5 5))))(AO (%6Srfl Ez EF%F(&z6 6)))(Aj (YJ (i:=4) S.nd rfl &D YB %0r (JK U5 %0r (%K(ZA L)L.Vs L.operands.F.kp L.operands.b(&m(%0Q(#j6 6)Bb))) Bb))))))(#V%F))
%tIC:%y["self","least","most","number"](%5s"least""most")Iy:=⟨rfl,rfl,rfl,by decide+kernel,rfl,by decide+kernel,by decide+kernel⟩
%tBv(L:%q):BC g.P g.w g.K mg base %A 4 L.Be.f L.Be.fd (%5s"least""most") (#L3 AR):=Co L.Be.F IC λcdv A outer s H E hr xo=>
 have S:=IC
 (%0B(^B(%K(Io L)L.GP L.CM.F.kp L.CM.b(&m(%1WL.CN(Dj L)L.Dg.b%T))))(&A(PW.pt (FX (#RSM Ti&I LC) (FX (#RWV^R&I%n) (Fe (#RKd^R&I%F)))))(Ba xo L.Bm AS L.A4 L.A6 L.A5 &N %h L.An.b rfl (by decide) rfl L.Bp (%3ZL.FQ L xo%T)))&I)
%tJ4:%y["rules","line","needs_hold","coil","time"](%9h"needs_hold")JO:=⟨rfl,rfl,rfl,by decide+kernel,rfl,by decide+kernel,by decide+kernel⟩
%tRi(L:%q):BC g.P g.w g.K mg base %A 6 L.DL.f L.DL.fd (%9h"needs_hold") (#L3 Dc):=Co L.DL.F J4 λcdv A outer s H E hr xo=>
 have S:=J4
 (^g(^B(Bn L.Ap L.As L.Bt (BA L) %h xo L.Bk.b %n (&m(%6g%7k Bu))))(&A(PW.pt (S8 (Dd %F) (OI (Xh ^J &I (AM rfl L.Mg (%JL.Lh))))))(Ba xo L.Bm AS L.A4 L.A6 L.A5 &N %h L.An.b rfl (by decide) rfl L.Bp (%4nL.GR L xo)))(%5N(Bn L.Ap L.As L.Bj (Bv L) %h xo L.Be.b %n (%4lBb L.H0)))(&A(#RKd^R(#j4 4)(%6g(AM rfl L.NF (%JL.Lh))&I))(Ba xo L.Bm AS L.A4 L.A6 L.A5 &N %h L.An.b rfl (by decide) rfl L.Bp (%4nL.GR L xo)))(#V(JK SO Tj (II (&z3 3)) (%K(GK L)L.F8 L.Cz.F.kp L.Cz.b(^a4 4(&m(&GL.Pk)))))))
%tJ5:%y(%9h"what")(%9h"what")JP:=⟨rfl,rfl,rfl,by decide+kernel,rfl,by decide+kernel,by decide+kernel⟩
%tRj(L:%q):BC g.P g.w g.K mg base %A 8 L.DM.f L.DM.fd (%9h"what") (#L3 A8):=Co L.DM.F J5 λcdv A outer s H E hr xo=>
 have S:=J5
 (Ae (%1a(%5HCY C1 Bu)(%K(Jq L)L.GO L.Cr.F.kp L.Cr.b(Ab %7k (&z1 1)))AX) (%0B(%1a(%5HCY C1 Bu)(%8I(Bn L.Ap L.As L.Bj (Bv L) %h xo L.Be.b %n (%4lBb L.Pu)))AX)(%1a(%4X(%5HCY C1 Bu)(%5HCY C1 Bu))(%K(Ri L)L.Lm L.DL.F.kp L.DL.b(^a0 0(^a1 1(&m(Sb CY C1 %F Bu %8T)))))AX)(%8I(Bn L.Ap L.As L.Bt (BA L) %h xo L.Bk.b %n (&m(%8z%7k))))))
%tNf:%y["rules","line","word","code","what"]%5W M6:=⟨rfl,rfl,rfl,by decide+kernel,rfl,by decide+kernel,by decide+kernel⟩
%tNv(L:%q):BC g.P g.w g.K mg base %A 9 L.Ea.f L.Ea.fd %5W (^DEn):=Co L.Ea.F Nf λcdv A outer s H E hr xo=>
 have S:=Nf
 (^g(%0m(%6KL.CN(Dj L)L.Dg.b))(&A(Xg %4Z %F (&GL.Mo))(Ba xo L.Bm AS L.A4 L.A6 L.A5 &N %h L.An.b rfl (by decide) rfl L.Bp (%4nL.BJ L xo)))(^B(LD (&m(%0Q(Ms %4Z (&GL.Mo) %F)Bb))))(KD CV rfl (cg rfl (%0Q(Ms %4Z (&GL.Mo) %F)Bb)) (Dy (i:=4) S.nd rfl &D) HR (Aj (AO (%6Srfl Ez EF&I(&m(%K(Rj L)L.Ln L.DM.F.kp L.DM.b(^a0 0(#X1 1 4 4))))))))(#V&I))
%tMG:%y(%9h"guard")%5W MA:=⟨rfl,rfl,rfl,by decide+kernel,rfl,by decide+kernel,by decide+kernel⟩
%tUl(L:%q):BC g.P g.w g.K mg base %A 10 L.EM.f L.EM.fd %5W (^DGW):=Co L.EM.F MG λcdv A outer s H E hr xo=>
 have S:=MG
 (%0B(%0m(%K(Jq L)L.GO L.Cr.F.kp L.Cr.b(Ab %7k (&z1 1))))(AO (Bn L.Ap L.As L.AV %1T %h xo L.A0.b %n ^L))(JK SO Tj (JK SO Tj (%8IBb) %F) (%K(Nv L)L.Kx L.Ea.F.kp L.Ea.b(#X0 0 1 1))))
%tNj:%y["rules","line","word","code"]%5W Na:=⟨rfl,rfl,rfl,by decide+kernel,rfl,by decide+kernel,by decide+kernel⟩
%tVc(L:%q):BC g.P g.w g.K mg base %A 11 L.Fn.f L.Fn.fd %5W (^DB4):=Co L.Fn.F Nj λcdv A outer s H E hr xo=>
 have S:=Nj
 (Ae (%0m(%6KL.CN(Dj L)L.Dg.b)) (%4s(&A(%4X(#RCY C1(%6uL.DB)Bb)(%0kCY C1(&6b(&m(AM rfl L.Gv (%0Q(%JL.DB)(gB PK Th Bb)))))L.MP))(Ba xo L.Bm AS L.A4 L.A6 L.A5 &N %h L.An.b rfl (by decide) rfl L.Bp (%4nL.BJ L xo)))(Bh (%5HCY C1 Bu) (Aj (^B(%K(Ul L)L.NI L.EM.F.kp L.EM.b(#X0 0 1 1)))) (Aj (^B(JK SO Tj (%8IBb) (%K(Nv L)L.Kx L.Ea.F.kp L.Ea.b(#X0 0 1 1))))))(AO (%7Nrfl E5 E7(AM rfl L.Gv (%0Q(%JL.DB)(gB PK Th Bb)))(&z3 3)))))
%tQT:%y&1Q%5W Qw:=⟨rfl,rfl,rfl,by decide+kernel,rfl,by decide+kernel,by decide+kernel⟩
%tYl(L:%q):BC g.P g.w g.K mg base %A 12 L.Hw.f L.Hw.fd %5W (^DEJ):=Co L.Hw.F QT λcdv A outer s H E hr xo=>
 have S:=QT
 (Ae (Bh (%4X(Dd (Bn L.Ap L.As L.D6 (E1 L) %h xo L.Dl.b %n ^L))(Dd (Bn L.Ap L.As L.D6 (E1 L) %h xo L.Dl.b %n ^L))) (Ae (AO (%K(Vc L)L.Ph L.Fn.F.kp L.Fn.b(#X0 0 1 1))) (Aj dG)) AX) (^g(%0m(%K(Rh L)L.NG L.FG.F.kp L.FG.b(^a1 1(%7KL.MM(%JL.IL)))))(&A(%4X(#RCY C1(%8z(%JL.HD))(Ms %4Z (&GL.MN) %F))(Dd (AK L.UD L.Yz L.Fd (Hl L) %h xo L.Cy.b %T)))(Ba xo L.Bm AS L.A4 L.A6 L.A5 &N %h L.An.b rfl (by decide) rfl L.Bp (%4nL.BJ L xo)))(AO (%K(Vb L)L.Pg L.Fl.F.kp L.Fl.b(^a0 0(#X1 1 2 2))))(n8 ^J YD %0r (%JL.HD) %F Bb)(Aj (#oL.IL%F))))
%tNn:%6qNd:=⟨rfl,rfl,rfl,by decide+kernel,rfl,by decide+kernel,by decide+kernel⟩
%tJr(L:%q):BC g.P g.w g.K mg base %A 3 L.EK.f L.EK.fd #C (^PBD):=Co L.EK.F Nn λcdv A outer s H E hr xo=>
 have S:=Nn
 (Aj (&A(Dd (%1WL.BR(BZ L)L.BL.b%T))(Ba xo L.Bm AS L.A4 L.A6 L.A5 &N %h L.An.b rfl (by decide) rfl L.Bp (%7KL.BJ(%0Q(%JL.OC)(%JL.HW))))))
%tPb:%y["setting","text","rules","span","line"] ["setting","text"]O3:=⟨rfl,rfl,rfl,by decide+kernel,rfl,by decide+kernel,by decide+kernel⟩
%tWn(L:%q):BC g.P g.w g.K mg base %A 13 L.ER.f L.ER.fd ["setting","text"] (^DDz):=Co L.ER.F Pb λcdv A outer s H E hr xo=>
 have S:=Pb
 (^g(&A(#RCY C1(%3y1 1)Bb)(Ba xo L.Bm AS L.A4 L.A6 L.A5 &N %h L.An.b rfl (by decide) rfl L.Bp (%7KL.IU Bb)))(%0m(Tb L.UD (L.ZO) (Rn L) %h xo rfl L.dh L.EH.b (&z0 0)))(KD CV rfl (Mq rfl (%K(Kt L)L.IP L.DR.F.kp L.DR.b(&z1 1))) (Dy (i:=3) S.nd rfl &D) HR (%4s(%5N(%K(Nw L)L.Mi L.Fx.F.kp L.Fx.b(#X1 1 3 3)))(AO (%K(Yl L)L.TF L.Hw.F.kp L.Hw.b(#X2 2 4 4)))(AO (%1WL.GN(Jr L)L.EK.b(#j4 4)))))(&A(Dd (AK L.UD L.Yz L.Fd (Hl L) %h xo L.Cy.b %F))(Ba xo L.Bm AS L.A4 L.A6 L.A5 &N %h L.An.b rfl (by decide) rfl L.Bp (%7KL.KC(%3y1 1))))(#V%F))
%tLa:%6qGC:=⟨rfl,rfl,rfl,by decide+kernel,rfl,by decide+kernel,by decide+kernel⟩
%tLd(L:%q):FnN g.P g.w g.K mg base 1 L.Cc.f L.Cc.fd #C (spX L.BE 0 λ_=>[("number",.int (-9))]):=PR L.Cc.F L.I0 La rfl
%tOP:%6qIu:=⟨rfl,rfl,rfl,by decide+kernel,rfl,by decide+kernel,by decide+kernel⟩
%tOR(L:%q):FnN g.P g.w g.K mg base 1 L.De.f L.De.fd #C (spX L.CW 0 λ_=>[("number",.int (-2))]):=PR L.De.F L.PD OP rfl
%tJ8:%6qJV:=⟨rfl,rfl,rfl,by decide+kernel,rfl,by decide+kernel,by decide+kernel⟩
%tRm(L:%q):BC g.P g.w g.K mg base %A 1 L.EG.f L.EG.fd #C (^PEC):=Co L.EG.F J8 λcdv A outer s H E hr xo=>
 have S:=J8
 (Ae (#oL.Ry Bb) (%8O(#oL.Ef Hc)(#oL.F7 Hc)(^g(#oL.HX Hc)(#oL.NF Hc)(#oL.Mg Hc)(#oL.Gu Hc)(^g(#oL.E2 Hc)(#oL.DQ Hc)(#oL.Mh Bb)(#oL.Fq%8F)(Aj (#oL.HM Hc))))))
%tQY:%y^s^s QB:=⟨rfl,rfl,rfl,by decide+kernel,rfl,by decide+kernel,by decide+kernel⟩
%tYp(L:%q):BC g.P g.w g.K mg base %A 5 L.FK.f L.FK.fd ^s (^DGH):=Co L.FK.F QY λcdv A outer s H E hr xo=>
 have S:=QY
 (%4s(AO (%6KL.Eg(Ff L)L.CU.b))(AO (Bn L.Ap L.As L.AV %1T %h xo L.A0.b %n ^L))(#oL.Ry(Bn L.Ap L.As L.Bj (Bv L) %h xo L.Be.b %n (%4lBb L.Px))))
%tO7:%y["line","places","most","place"] ["line","places","most"]OX:=⟨rfl,rfl,rfl,by decide+kernel,rfl,by decide+kernel,by decide+kernel⟩
%tKs(L:%q):BC g.P g.w g.K mg base %A 5 L.DK.f L.DK.fd ["line","places","most"] (#L3 FR):=Co L.DK.F O7 λcdv A outer s H E hr xo=>
 have S:=O7
 (Ae (AO (Bn L.Ap L.As L.AV %1T %h xo L.A0.b %T ^L)) (%0B(^B(Bn L.Ap L.As L.Bj (Bv L) %h xo L.Be.b %T (Ab Bb (&z2 2))))(&A(PW.pt (S8 (km rfl %n) (OI (#RpC^R&I(rV rfl rfl L.bL %n)))))(Ba xo L.Bm AS L.A4 L.A6 L.A5 &N %h L.An.b rfl (by decide) rfl L.Bp (%3ZL.Mn L xo%T)))&I))
%tNg:%y["table","line","name","place"]^s M7:=⟨rfl,rfl,rfl,by decide+kernel,rfl,by decide+kernel,by decide+kernel⟩
%tU9(L:%q):BC g.P g.w g.K mg base %A 6 L.Ed.f L.Ed.fd ^s (^DF9):=Co L.Ed.F Ng λcdv A outer s H E hr xo=>
 have S:=Ng
 (Ae (%0m(Bn L.Ap L.As L.CA (C8 L) %h xo L.Cd.b %n (%5e(%JL.Ef)(TX ^L)))) (%8O(^B(%K(Ks L)L.IM L.DK.F.kp L.DK.b(^a1 1(%4l(%JL.Ef)L.NW))))(AO (Bn L.Ap L.As L.AV %1T %h xo L.A0.b %n ^L))(^g(AO (Bn L.Ap L.As L.Bj (Bv L) %h xo L.Be.b %n (%4lBb L.Jx)))(AO (Bn L.Ap L.As L.AV %1T %h xo L.A0.b %n ^L))(AO (Bn L.Ap L.As L.Bj (Bv L) %h xo L.Be.b %n (%4lBb L.Jx)))(&A(Dd (%6KL.BR(BZ L)L.BL.b))(AO (Bn L.Ap L.As L.AV %1T %h xo L.A0.b %n ^L)))(Aj (Gi ^J (%JL.Ef) %F &I)))))
%tQU:%y["table","line","name"]^s Qx:=⟨rfl,rfl,rfl,by decide+kernel,rfl,by decide+kernel,by decide+kernel⟩
%tYm(L:%q):BC g.P g.w g.K mg base %A 6 L.FH.f L.FH.fd ^s (^DIe):=Co L.FH.F QU λcdv A outer s H E hr xo=>
 have S:=QU
 (Ae (%0m(Bn L.Ap L.As L.CA (C8 L) %h xo L.Cd.b %n (%5e(%JL.F7)(TX ^L)))) (Aj (Gi ^J (%JL.F7) %F (%K(Ks L)L.IM L.DK.F.kp L.DK.b(^a1 1(%4l(%JL.F7)L.RP))))))
%tQZ:%y["table","line","name","place"]^s QC:=⟨rfl,rfl,rfl,by decide+kernel,rfl,by decide+kernel,by decide+kernel⟩
%tYq(L:%q):BC g.P g.w g.K mg base %A 6 L.FL.f L.FL.fd ^s (^DIg):=Co L.FL.F QZ λcdv A outer s H E hr xo=>
 have S:=QZ
 (Ae (%0m(Bn L.Ap L.As L.CA (C8 L) %h xo L.Cd.b %n (%5e(%JL.HX)(TX Af)))) (%8O(^B(%K(Ks L)L.IM L.DK.F.kp L.DK.b(^a1 1(%4l(%JL.HX)L.RQ))))(AO (Bn L.Ap L.As L.AV %1T %h xo L.A0.b %n ^L))(^g(Gi ^J (%JL.NF) &I (Bn L.Ap L.As L.Bj (Bv L) %h xo L.Be.b %n (%4lBb L.Pr)))(AO (Bn L.Ap L.As L.AV %1T %h xo L.A0.b %n ^L))(AO (Bn L.Ap L.As L.Bj (Bv L) %h xo L.Be.b %n (%4lBb L.RH)))(Bh (Dd (%6KL.BR(BZ L)L.BL.b)) (Ae (AO (Bn L.Ap L.As L.AV %1T %h xo L.A0.b %n ^L)) (Aj (Gi ^J (%JL.Mg) &I (Bn L.Ap L.As L.Bj (Bv L) %h xo L.Be.b %n (%4lBb L.RJ))))) AX)(Aj (Gi ^J (%JL.HX) %F &I)))))
%tHg:%y["table","line","switch"]^s He:=⟨rfl,rfl,rfl,by decide+kernel,rfl,by decide+kernel,by decide+kernel⟩
%tHk(L:%q):BC g.P g.w g.K mg base %A 6 L.BV.f L.BV.fd ^s (^DCa):=Co L.BV.F Hg λcdv A outer s H E hr xo=>
 have S:=Hg
 (%4s(%0m(Bn L.Ap L.As L.Bt (BA L) %h xo L.Bk.b %n (&2QL.Ef)))(&A(Qh ^J %F (%JL.DQ))(Ba xo L.Bm AS L.A4 L.A6 L.A5 &N %h L.An.b rfl (by decide) rfl L.Bp (%4nL.GR L xo)))(Gi ^J (%JL.DQ) %F kK))
%tQX:%y["table","line","held"]^s Qz:=⟨rfl,rfl,rfl,by decide+kernel,rfl,by decide+kernel,by decide+kernel⟩
%tYo(L:%q):BC g.P g.w g.K mg base %A 7 L.Hx.f L.Hx.fd ^s (^DN7):=Co L.Hx.F QX λcdv A outer s H E hr xo=>
 have S:=QX
 (%4s(AO (%K(Hk L)L.Fs L.BV.F.kp L.BV.b(#X0 0 1 1)))(%0mBb)(R6 fuel CV (Dd (%6KL.BR(BZ L)L.BL.b)) (%4s(Bh (%4X(%0kCY C1%F L.RL)(Dd (Bn L.Ap L.As L.D6 (E1 L) %h xo L.Dl.b %n ^L))) (%4s(AO (Bn L.Ap L.As L.AV %1T %h xo L.A0.b %n ^L))(Ta rfl L.Mh YD %0r %T %F)dG) AX)(AO (%K(Hk L)L.Fs L.BV.F.kp L.BV.b(#X0 0 1 1)))(YJ (i:=2) S.nd rfl &D YB %0r Bb))))
%tNh:%y["table","line","name","coil"]^s M8:=⟨rfl,rfl,rfl,by decide+kernel,rfl,by decide+kernel,by decide+kernel⟩
%tVa(L:%q):BC g.P g.w g.K mg base %A 8 L.Ee.f L.Ee.fd ^s (^DE6):=Co L.Ee.F Nh λcdv A outer s H E hr xo=>
 have S:=Nh
 (^g(&A(%0kCY C1(%6uL.Gu)L.MO)(Ba xo L.Bm AS L.A4 L.A6 L.A5 &N %h L.An.b rfl (by decide) rfl L.Bp (%4nL.BJ L xo)))(%0m(Bn L.Ap L.As L.CA (C8 L) %h xo L.Cd.b %n (%5e(%JL.Gu)(TX Af))))(AO (Bn L.Ap L.As L.AV %1T %h xo L.A0.b %n ^L))(^B(Bn L.Ap L.As L.Bt (BA L) %h xo L.Bk.b %n (&2QL.HX)))(^g(&A(Qh ^J &I (%JL.E2))(Ba xo L.Bm AS L.A4 L.A6 L.A5 &N %h L.An.b rfl (by decide) rfl L.Bp (%4nL.GR L xo)))(Gi ^J (%JL.E2) &I kK)(AO (Bn L.Ap L.As L.AV %1T %h xo L.A0.b %n ^L))(AO (%K(Yo L)L.TH L.Hx.F.kp L.Hx.b(#X0 0 1 1)))(Aj (Gi ^J (%JL.Gu) %F (%6uL.Gu)))))
%tJm:%y["self","known","places","place"](&2z"places")Jf:=⟨rfl,rfl,rfl,by decide+kernel,rfl,by decide+kernel,by decide+kernel⟩
%tGr(L:%q):BC g.P g.w g.K mg base %A 6 L.C3.f L.C3.fd (&2z"places") (#L3 Cm):=Co L.C3.F Jm λcdv A outer s H E hr xo=>
 have S:=Jm
 (%0B(^B(Bn L.Ap L.As L.Bt (BA L) %h xo L.Bk.b %T (&z1 1)))(&A(PW.pt (S8 (km rfl %F) (OI (#RpC^R&I(%0Q%F(gB PK Th Bb))))))(Ba xo L.Bm AS L.A4 L.A6 L.A5 &N %h L.An.b rfl (by decide) rfl L.Bp (%3ZL.Mn L xo%T)))&I)
%tQW:%y["table","line","switch","coil"]^s Qy:=⟨rfl,rfl,rfl,by decide+kernel,rfl,by decide+kernel,by decide+kernel⟩
%tYn(L:%q):BC g.P g.w g.K mg base %A 7 L.FJ.f L.FJ.fd ^s (^DGG):=Co L.FJ.F QW λcdv A outer s H E hr xo=>
 have S:=QW
 (Ae (&A(%0kCY C1(%6uL.Fq)L.Pw)(Ba xo L.Bm AS L.A4 L.A6 L.A5 &N %h L.An.b rfl (by decide) rfl L.Bp (%4nL.BJ L xo))) (^g(%0m(Bn L.Ap L.As L.EU (Gr L) %h xo L.C3.b %n (%5e(%JL.Ef)(%JL.Fq))))(&A(Qh ^J %F (%JL.DQ))(Ba xo L.Bm AS L.A4 L.A6 L.A5 &N %h L.An.b rfl (by decide) rfl L.Bp (%4nL.GR L xo)))(^B(Bn L.Ap L.As L.Bt (BA L) %h xo L.Bk.b %n (&2QL.HX)))(&A(%4X(Qh ^J &I (%JL.E2))(Qh ^J &I (%JL.HM)))(Ba xo L.Bm AS L.A4 L.A6 L.A5 &N %h L.An.b rfl (by decide) rfl L.Bp (%4nL.GR L xo)))(^g(AO (Bn L.Ap L.As L.AV %1T %h xo L.A0.b %n ^L))(&A(#RKd^R(Bn L.Ap L.As L.Bj (Bv L) %h xo L.Be.b %n (%4lBb L.RI))(%6g(%JL.NF)&I))(Ba xo L.Bm AS L.A4 L.A6 L.A5 &N %h L.An.b rfl (by decide) rfl L.Bp (%4nL.GR L xo)))(Bh (Dd (%6KL.BR(BZ L)L.BL.b)) (Ae (AO (Bn L.Ap L.As L.AV %1T %h xo L.A0.b %n ^L)) (Aj (&A(#RCY C1(Bn L.Ap L.As L.Bt (BA L) %h xo L.Bk.b %n (&2QL.Ef))%F)(Ba xo L.Bm AS L.A4 L.A6 L.A5 &N %h L.An.b rfl (by decide) rfl L.Bp (%4nL.GR L xo))))) AX)(AO (%7Nrfl E5 E7(%JL.Fq)(&z2 2)))(Aj (Gi ^J (%JL.HM) &I kK)))))
%tPa:%y["text","table","sort","span","line"]&4i O0:=⟨rfl,rfl,rfl,by decide+kernel,rfl,by decide+kernel,by decide+kernel⟩
%dN6(L:%q)(x:Str):FuncData:=if x="read_head" then L.FK.fd else if x="read_switch" then L.Ed.fd else if x="read_lamp" then L.FH.fd else if x="read_coil" then L.FL.fd else if x="read_device" then L.Ee.fd else L.FJ.fd
%tXQ(L:%q):∀x ff f,Gm x=some ff→g.fn x=some f→BC g.P g.w g.K mg base %A 8 f (N6 L x) (PV x) (^Dff)∧%1ig.K f=true∧Binds g.K (N6 L x) (PV x) []:=by
 intro x ff f e1 e2
 u Gm at e1
 by_cases h_read_head:x="read_head"
 ·subst h_read_head
  rw[L.RX] at e2
  c e2
  c e1
  e⟨(Yp L).mono (by decide),L.FK.F.kp,L.FK.b⟩
 by_cases h_read_switch:x="read_switch"
 ·subst h_read_switch
  rw[L.NY] at e2
  c e2
  c e1
  e⟨(U9 L).mono (by decide),L.Ed.F.kp,L.Ed.b⟩
 by_cases h_read_lamp:x="read_lamp"
 ·subst h_read_lamp
  rw[L.RU] at e2
  c e2
  c e1
  e⟨(Ym L).mono (by decide),L.FH.F.kp,L.FH.b⟩
 by_cases h_read_coil:x="read_coil"
 ·subst h_read_coil
  rw[L.RZ] at e2
  c e2
  c e1
  e⟨(Yq L).mono (by decide),L.FL.F.kp,L.FL.b⟩
 by_cases h_read_device:x="read_device"
 ·subst h_read_device
  rw[L.NZ] at e2
  c e2
  c e1
  e⟨(Va L).mono (by decide),L.Ee.F.kp,L.Ee.b⟩
 by_cases h_read_kick:x="read_kick"
 ·subst h_read_kick
  rw[L.RV] at e2
  c e2
  c e1
  e⟨(Yn L).mono (by decide),L.FJ.F.kp,L.FJ.b⟩
 have z:(λx=>(x=="read_head")||(x=="read_switch")||(x=="read_lamp")||(x=="read_coil")||(x=="read_device")||(x=="read_kick"):Str→Bool) x=false:=by simp[h_read_head,h_read_switch,h_read_lamp,h_read_coil,h_read_device,h_read_kick]
 s[List.lookup,beq_eq_false_iff_ne.mpr h_read_head,beq_eq_false_iff_ne.mpr h_read_switch,beq_eq_false_iff_ne.mpr h_read_lamp,beq_eq_false_iff_ne.mpr h_read_coil,beq_eq_false_iff_ne.mpr h_read_device,beq_eq_false_iff_ne.mpr h_read_kick] at e1
 c e1
%tWm(L:%q):BC g.P g.w g.K mg base %A 9 L.EN.f L.EN.fd &4i (^PEZ):=Co L.EN.F Pa λcdv A outer s H E hr xo=>
 have S:=Pa
 (Ae (&A(#RCY C1(%3y0 0)Bb)(Ba xo L.Bm AS L.A4 L.A6 L.A5 &N %h L.An.b rfl (by decide) rfl L.Bp (%7KL.IU Bb))) (^g(Az (i:=1) S.nd rfl &D (dO L.dQ (L.ZN) (Rm L) %h xo rfl L.c9 L.EG.b))(%0mLC)(KD CV rfl (Mq rfl (%K(Kt L)L.IP L.DR.F.kp L.DR.b(&z0 0))) (Dy (i:=3) S.nd rfl &D) HR (Ae (%5N(%K(Nw L)L.Mi L.Fx.F.kp L.Fx.b(#X0 0 3 3))) (%4s(%0m(%K(Rh L)L.NG L.FG.F.kp L.FG.b(^a4 4(Ab (&GL.NR) (&z2 2)))))(AO (oo (fds:=N6 L) (ps:=PV) xo %h (XQ L) (Ms %4Z (&GL.VB) %F) (#X1 1 4 4)))(AO (%1WL.GN(Jr L)L.EK.b(#j4 4))))))(&A(#RWV^R(%6ML.Mh 1 1)(%6ML.Ry 1 1))(Ba xo L.Bm AS L.A4 L.A6 L.A5 &N %h L.An.b rfl (by decide) rfl L.Bp (%7KL.Py(%3y0 0))))(#V%n)))
%tIA:%y(%5s"table""shows")(%5s"table""shows")Iv:=⟨rfl,rfl,rfl,by decide+kernel,rfl,by decide+kernel,by decide+kernel⟩
%tOS(L:%q):BC g.P g.w g.K mg base %A 1 L.DG.f L.DG.fd (%5s"table""shows") (#L3 BK):=Co L.DG.F IA λcdv A outer s H E hr xo=>
 have S:=IA
 (Ae (#oL.Lh%n) (Aj (by r B8 ?_ ?_ ?_ ?_ ?_;e rfl;e L.DP;e%T;e(by r cj ?_ ?_ ?_ ?_ ?_;rotate_left;rfl;rfl;e List.cons_ne_nil _ _;e Nat.le_of_ble_eq_true rfl;r Eu ?_ ?_ ?_;e Bu;e(%6ML.Ef 1 1);r Eu ?_ ?_ ?_;e Bu;e(%6ML.F7 1 1);r Eu ?_ ?_ ?_;e Bu;e(%6ML.HX 1 1);r Eu ?_ ?_ ?_;e Bu;e(%6ML.Gu 1 1);r Eu ?_ ?_ ?_;e Bu;e%F;e cb);e cG)))
%tLb:%6qK4:=⟨rfl,rfl,rfl,by decide+kernel,rfl,by decide+kernel,by decide+kernel⟩
%tSS(L:%q):BC g.P g.w g.K mg base %A 1 L.E9.f L.E9.fd #C (^PD9):=Co L.E9.F Lb λcdv A outer s H E hr xo=>
 have S:=Lb
 (%4s(#oL.GL Hc)(#oL.F7%8F)(#oL.Li Bb))
%tJn:%6qJg:=⟨rfl,rfl,rfl,by decide+kernel,rfl,by decide+kernel,by decide+kernel⟩
%tJs(L:%q):BC g.P g.w g.K mg base %A 1 L.Dx.f L.Dx.fd #C (^PCQ):=Co L.Dx.F Jn λcdv A outer s H E hr xo=>
 have S:=Jn
 (#V(kL (Sb Kd ^R (%6uL.GL) Bb %8T) (dN (Sb CY C1 (%JL.Li) Bb %8T))))
%tQR:%y["book","lamps","line","name","places"] ["book","lamps","line"]Qv:=⟨rfl,rfl,rfl,by decide+kernel,rfl,by decide+kernel,by decide+kernel⟩
%tYk(L:%q):BC g.P g.w g.K mg base %A 7 L.Hv.f L.Hv.fd ["book","lamps","line"] (#L3 Ic):=Co L.Hv.F QR λcdv A outer s H E hr xo=>
 have S:=QR
 (^g(&A(%4X(%0kCY C1(%6uL.GL)L.Pq)(Dd (AK L.YS L.bR L.Gw (Js L) %h xo L.Dx.b %T)))(Ba xo L.Bm AS L.A4 L.A6 L.A5 &N %h L.An.b rfl (by decide) rfl L.Bp (%3ZL.BJ L xo%F)))(^B(Bn L.Ap L.As L.CA (C8 L) %h xo L.Cd.b %F (%5e(%JL.GL)(TX Af))))(AO (Bn L.Ap L.As L.AV %1T %h xo L.A0.b %F ^L))(%5N(LD (&m(Bn L.Ap L.As L.Bt (BA L) %h xo L.Bk.b %F (&z1 1)))))(^g(R6 fuel CV (PW.pt (S8 (Dd (%1WL.BR(BZ L)L.BL.b%F)) (OI (S9 (Dd (Bn L.Ap L.As L.D6 (E1 L) %h xo L.Dl.b %F ^L)))))) (Aj (AO (%7Nrfl E5 E7(#j4 4)(&m(Bn L.Ap L.As L.EU (Gr L) %h xo L.C3.b %F (#X1 1 4 4)))))))(&A(Dd (Bn L.Ap L.As L.D6 (E1 L) %h xo L.Dl.b %F ^L))(AO (Bn L.Ap L.As L.AV %1T %h xo L.A0.b %F ^L)))(Gi ^J (%JL.GL) &I (%6uL.GL))(#oL.F7(#j4 4))(Aj (#oL.Li Bb))))
%tQQ:%y["book","lamps","line","places","place"] ["book","lamps","line"]Qu:=⟨rfl,rfl,rfl,by decide+kernel,rfl,by decide+kernel,by decide+kernel⟩
%tYj(L:%q):BC g.P g.w g.K mg base %A 7 L.Hu.f L.Hu.fd ["book","lamps","line"] (#L3 Ib):=Co L.Hu.F QQ λcdv A outer s H E hr xo=>
 have S:=QQ
 (^g(&A(%4X(#RCY C1(%6uL.GL)Bb)(%0kCY C1(%JL.Li)L.Pp))(Ba xo L.Bm AS L.A4 L.A6 L.A5 &N %h L.An.b rfl (by decide) rfl L.Bp (%3ZL.BJ L xo%F)))(AO (Bn L.Ap L.As L.Bj (Bv L) %h xo L.Be.b %F (%4lBb L.Kk)))(^B%8F)(R6 fuel CV (Dd (%1WL.BR(BZ L)L.BL.b%F)) (%4s(%5N(Bn L.Ap L.As L.EU (Gr L) %h xo L.C3.b %F (#X1 1 3 3)))(&A(&2PRf(aH true)(#j4 4)(%JL.F7))(Ba xo L.Bm AS L.A4 L.A6 L.A5 &N %h L.An.b rfl (by decide) rfl L.Bp (%3ZL.Mm L xo%F)))(AO (%7Nrfl E5 E7&I(&z4 4)))))(Aj (Ta rfl L.Li YD %0r %T Bb)))
%tQ0:%y["lamps","text","book","span","line","word"] ["lamps","text"]QF:=⟨rfl,rfl,rfl,by decide+kernel,rfl,by decide+kernel,by decide+kernel⟩
%tYr(L:%q):BC g.P g.w g.K mg base %A 8 L.FN.f L.FN.fd ["lamps","text"] (^DCC):=Co L.FN.F Q0 λcdv A outer s H E hr xo=>
 have S:=Q0
 (Ae (%0m(dO L.YS (L.c6) (SS L) %h xo rfl L.jN L.E9.b)) (%0B(KD CV rfl (Mq rfl (%K(Kt L)L.IP L.DR.F.kp L.DR.b(&z1 1))) (Dy (i:=3) S.nd rfl &D) HR (Ae (%5N(%K(Nw L)L.Mi L.Fx.F.kp L.Fx.b(#X1 1 3 3))) (%4s(Az (i:=5) S.nd rfl &D (%1WL.CN(Dj L)L.Dg.b(#j4 4)))(Bh (#RCY C1(#j5 5)Bu) (Aj (AO (%K(Yk L)L.TC L.Hv.F.kp L.Hv.b(^a2 2(#X0 0 4 4))))) (Aj (Bh (#RCY C1(#j5 5)Bu) (Aj (AO (%K(Yj L)L.TB L.Hu.F.kp L.Hu.b(^a2 2(#X0 0 4 4))))) (Aj (Ba xo L.Bm AS L.A4 L.A6 L.A5 &N %h L.An.b rfl (by decide) rfl L.Bp (%3ZL.BJ L xo(#j4 4)))))))(AO (%1WL.GN(Jr L)L.EK.b(#j4 4))))))(&A(Dd (AK L.YS L.bR L.Gw (Js L) %h xo L.Dx.b %F))(Ba xo L.Bm AS L.A4 L.A6 L.A5 &N %h L.An.b rfl (by decide) rfl L.Bp (%7KL.KC(%3y1 1))))(%6ML.GL 2 2)))
%tJI:%6qFV:=⟨rfl,rfl,rfl,by decide+kernel,rfl,by decide+kernel,by decide+kernel⟩
%tJJ(L:%q):FnN g.P g.w g.K mg base 1 L.BW.f L.BW.fd #C (spX L.Bl 0 λ_=>[("number",.int (-8))]):=PR L.BW.F L.Hr JI rfl
%tMH:%y["table","book","third","known"] ["table","book","third"]MB:=⟨rfl,rfl,rfl,by decide+kernel,rfl,by decide+kernel,by decide+kernel⟩
%tUm(L:%q):BC g.P g.w g.K mg base %A 10 L.EO.f L.EO.fd ["table","book","third"] (#L3 Cq):=uB L.EO.F MH λcdv A outer s H E hr xo=>
 have S:=MH
 (ko (DS.to0 (&A(PW.pt (FX (%0kKd^R(%3y0 0)L.IG) (FX (%0kKd^R(%3y1 1)L.HN) (Fe (%0kKd^R(%3y2 2)L.HN)))))(Xi xo L.Sn c4 L.PD L.UI L.UH (OR L) %h L.De.b rfl rfl L.SW))) (n9 (nZ (%5Vrfl) S.nd (L.pN _ (by decide)) (by decide) (λE' xe xo=>(Ae (^B(%K(Wm L)L.RC L.EN.F.kp L.EN.b(&z0 0))) (#V(Tb L.Xq (L.Vm) (OS L) %h xo rfl L.W0 L.DG.b (^a3 3(&m(%K(Yr L)L.TJ L.FN.F.kp L.FN.b(Ab (%6ML.F7 3 3) (&z1 1))))))))) (Hs.rer (λc C e xe h=>L.Wx rfl rfl rfl h) (λc C e d σ H s hm hc I he hE=>qp (%5Vrfl) (xo _) L.Hr L.KQ L.KP (JJ L) (hr.toN.mono (by decide)) L.BW.b rfl rfl L.Iq (L.ue hc hm) (L.Ke) I he (uE L.Il hE)) Hs.nil))))
%tQ4:%y["table","book","rules","made"] ["table","book","rules"]QJ:=⟨rfl,rfl,rfl,by decide+kernel,rfl,by decide+kernel,by decide+kernel⟩
%tYt(L:%q):BC g.P g.w g.K mg base %A 14 L.HE.f L.HE.fd ["table","book","rules"] (#L3 CD):=Co L.HE.F Q4 λcdv A outer s H E hr xo=>
 have S:=Q4
 (%0B(^B(%K(Wl L)L.RA L.Gp.F.kp L.Gp.b(&m(%K(Wn L)L.RD L.ER.F.kp L.ER.b(Ab (%K(Um L)L.NJ L.EO.F.kp L.EO.b(^a0 0(#X1 1 2 2))) (&z2 2))))))(&A(%0kKd^R(%3y3 3)L.HN)(Xi xo L.Kr c4 L.I0 L.M4 L.M3 (Ld L) %h L.Cc.b rfl rfl L.Ky))&I)
%tZm:%y["table","book","rules","refusal","fault"] ["table","book","rules"]Za:=⟨rfl,rfl,rfl,by decide+kernel,rfl,by decide+kernel,by decide+kernel⟩
%tjx(L:%q):BC g.P g.w g.K mg base %A 15 L.judge.f L.judge.fd ["table","book","rules"] (wF0 g 3 Mp):=vC L.judge.F Zm λcdv A outer s H E hr xo=>
 have S:=Zm
 (pY (sS (%5Vrfl) S.nd (L.pN _ (by decide)) (λE' xe xo=>(Aj (AO (%K(Yt L)L.TN L.HE.F.kp L.HE.b(^a0 0(#X1 1 2 2)))))) (Hs.as (λc C e xe h=>L.xt3 rfl rfl rfl rfl rfl h) rfl rfl (λe=>(#V(%8I(rT L.xcl (^brfl) &I)))) (Hs.as (λc C e xe h=>L.Wx rfl rfl rfl h) rfl rfl (λe=>(#V(II (Ab (&GL.NS) (%5e(rT L.xcl %U (#j4 4))(rT L.xcl &3w (#j4 4))))))) Hs.nil))) (sT (uW (A1 (%8IBb)))))
end
end JU
section
namespace L2
open PySem PySem.Spec PyProof.Rows
open PySem.W (WData Codec OpenSpec Well WellAll ReadsW ReadsAllW)
mutual
inductive Dw(K:PySem.W.Frag)(H:Hp):V→WData→Prop
 |non:Dw K H .non .none
 |bl (b:Bool):Dw K H %7A (.bool b)
 |int (i:Int):Dw K H ^x ^x
 |str (x:Str):Dw K H %0J %0J
 |byt (b:Array UInt8):Dw K H (.byt b) (.bytes b.toList)
 |lst {a:Addr} {xs:%c} {ds:%3Y}:SqL K H a xs→LM K H xs ds→Dw K H %N (.list ds)
 |tup {a:Addr} {xs:%c} {ds:%3Y}:SqT K H a xs→LM K H xs ds→Dw K H %N (.tuple ds)
inductive LM(K:PySem.W.Frag)(H:Hp):%c→%3Y→Prop
 |nil:LM K H [] []
 |cons {v:V} {vs:%c} {d:WData} {ds:%3Y}:Dw K H v d→LM K H vs ds→LM K H (v::vs) (d::ds)
end
%tdF{K:PySem.W.Frag}{H:Hp}:∀ns:%1L,LM K H &6K (ns.map WData.int)
 |[]=>.nil
 |n::r=>.cons (.int n) (dF r)
%tUy{K:PySem.W.Frag}{H:Hp}:∀(ns:%1L) (xs:%c),LM K H xs (ns.map WData.int)→xs=ns.map V.int
 |[],xs,h=>by
  c h
  rfl
 |n::r,xs,h=>by
  cases h with
  |cons h1 h2=>
   c h1;rw[Uy r _ h2]<;>rfl
section
variable{P:Program}{w:World}{K:PySem.W.Frag}{H:Hp}{h:Heap}{R:PySem.W.WRecords}{cl:Str→Option Addr}
%tqe{a:Addr}{xs:%c}(hok:HOk P w H h)(KX:%6m)(q:SqL K H a xs):∃(its:%o) (o:Obj) (n:Nat),%9W∧%0h=%b∧o.cls=%0c∧o.data=&1Jn:=by
 rcases q with q|⟨o,its,n,e,hc,_,hd,_,hv⟩
 ·o⟨_,its,n,hv,e⟩:=(show C2 P w H h a %9D from q.ok hok);e⟨its,_,n,hv,e,rfl,rfl⟩
 ·e⟨its.toList,o,n,hv,KX _ _ e,hc,by simp[hd]⟩
%tqd{a:Addr}{xs:%c}(hok:HOk P w H h)(KX:%6m)(q:SqT K H a xs):∃(its:%o) (o:Obj) (n:Nat),%9W∧%0h=%b∧o.cls=#M∧o.data=&1Jn:=by
 rcases q with q|⟨o,its,n,e,hc,hd,_,hv⟩
 ·o⟨_,its,hv,o,e,hc,n,hd⟩:=(show C2 P w H h a (.tup xs) from q.ok hok);e⟨its,o,n,hv,e,hc,hd⟩
 ·e⟨its.toList,o,n,hv,KX _ _ e,hc,by simp[hd]⟩
mutual
%tDw.reads(hok:HOk P w H h)(KX:%6m):∀(d:WData) (v:V) (u:Value),Dw K H v d→%1p→∃as,ReadsW R cl h u d as
 |.none,_,_,x,r=>by
  c x;c r
  e⟨_,ReadsW.none⟩
 |.bool b,_,_,x,r=>by
  c x;c r
  e⟨_,ReadsW.bool b⟩
 |.int i,_,_,x,r=>by
  c x;c0
  e⟨_,ReadsW.int i t⟩
 |.str s,_,_,x,r=>by
  c x;c0
  e⟨_,ReadsW.str s t⟩
 |.bytes b,_,_,x,r=>by
  c x;c0
  e⟨_,ReadsW.bytes _ t⟩
 |.list ds,_,_,x,r=>by
  cases x with
  |lst hs ha=>
   c r;o⟨its,o,n,rv,ho,hc,hd⟩:=qe hok KX hs;o⟨as,hr⟩:=Dw.readsAll hok KX ds _ its ha rv
   e⟨_,ReadsW.list ho hc hd hr⟩
 |.tuple ds,_,_,x,r=>by
  cases x with
  |tup hs ha=>
   c r;o⟨its,o,n,rv,ho,hc,hd⟩:=qd hok KX hs;o⟨as,hr⟩:=Dw.readsAll hok KX ds _ its ha rv
   e⟨_,ReadsW.tuple ho hc hd hr⟩
 |.float _,_,_,x,_=>by c x
 |.dict _,_,_,x,_=>by c x
 |.bytearray _,_,_,x,_=>by c x
 |.set _,_,_,x,_=>by c x
 |.frozenset _,_,_,x,_=>by c x
 |.obj _ _,_,_,x,_=>by c x
%tDw.readsAll(hok:HOk P w H h)(KX:%6m):∀(ds:%3Y) (vs:%c) (us:%o),LM K H vs ds→%8u→∃as,ReadsAllW R cl h us ds as
 |[],_,_,x,r=>by
  c x;c r
  e⟨_,ReadsAllW.nil⟩
 |d::ds,_,_,x,r=>by
  cases x with
  |cons h1 h2=>
   cases r with
   |cons r1 r2=>
    o⟨as,q1⟩:=Dw.reads hok KX d _ _ h1 r1;o⟨bs,q2⟩:=Dw.readsAll hok KX ds _ _ h2 r2;e⟨_,ReadsAllW.cons q1 q2⟩
end
end
mutual
%dplW:WData→Bool
 |.none=>true
 |.bool _=>true
 |.int _=>true
 |.str _=>true
 |.bytes _=>true
 |.list xs=>Uh xs
 |.tuple xs=>Uh xs
 |_=>false
%dUh:%3Y→Bool
 |[]=>true
 |x::r=>plW x&&Uh r
end
%tZx{α:Type}{f:α→WData}(h:∀a,plW (f a)=true):∀l:#y,Uh (l.map f)=true
 |[]=>rfl
 |x::r=>by
  show(plW (f x)&&Uh (r.map f))=true;rw[h x,Zx h r]<;>rfl
%tNu:∀(c:Codec) (a:c.denote),plW (c.enc a)=true
 |.unit,_=>rfl
 |.bool,_=>rfl
 |.int _ _,_=>rfl
 |.nat _ _,_=>rfl
 |.u8,_=>rfl
 |.bytes _ _,_=>rfl
 |.text _ _ _ _,_=>rfl
 |.list _ _ c,a=>Zx (λx=>Nu c x) a
 |.pair c d,a=>by
  show(plW (c.enc a.1)&&(plW (d.enc a.2)&&true))=true
  rw[Nu c a.1,Nu d a.2]<;>rfl
 |.triple c d e,a=>by
  show(plW (c.enc a.1)&&(plW (d.enc a.2.1)&&(plW (e.enc a.2.2)&&true)))=true
  rw[Nu c a.1,Nu d a.2.1,Nu e a.2.2]<;>rfl
 |.option c,none=>rfl
 |.option c,%v=>Nu c x
%tWS:∀(cs:List Codec) (a:Codec.denoteAll cs),Uh (Codec.encAll cs a)=true
 |[],_=>rfl
 |c::cs,a=>by
  show(plW (c.enc a.1)&&Uh (Codec.encAll cs a.2))=true;rw[Nu c a.1,WS cs a.2]<;>rfl
%tPF:∀{xs:%3Y} {d:WData},d∈xs→d.weight≤WData.weightAll xs
 |[],d,h=>%0bh
 |x::r,d,h=>by
  show d.weight≤x.weight+1+WData.weightAll r;rcases List.mem_cons.mp h with e|m
  ·t;b
  ·h z:=PF m;b
%dtoV:Value→V
 |.none=>.non
 |.bool b=>%7A
 |.int i _=>^x
 |.str x _=>%0J
 |.bytes b _=>.byt b
 |.ref a=>%N
 |_=>.non
%dOkU(A:&H):Value→Prop
 |.none=>True
 |.bool _=>True
 |.int _ _=>True
 |.str _ _=>True
 |.bytes _ _=>True
 |.ref a=>a∈A
 |_=>False
%tOkU.mono{A B:&H}(h:∀a∈A,a∈B):∀{u:Value},OkU A u→OkU B u:=λ{u} x=>by
 cases u with
 |ref a=>e h a x
 |none=>trivial
 |bool b=>trivial
 |int i t=>trivial
 |str s t=>trivial
 |bytes b t=>trivial
 |_=>e &4O
%tiX{A:&H}{u:Value}(x:OkU A u):%4G(toV u):=by
 cases u with
 |ref a=>rfl
 |none=>rfl
 |bool b=>rfl
 |int i t=>e⟨t,rfl⟩
 |str s t=>e⟨t,rfl⟩
 |bytes b t=>e⟨t,rfl⟩
 |_=>e &4O
%tKU{A:&H}:∀{vs:%o},(∀u∈vs,OkU A u)→Vals &0I vs
 |[],_=>.nil
 |u::r,h=>.cons (iX (&4uu)) (KU λx hx=>h x (#ahx))
%dMZ(h:Heap)(A:&H)(a:Addr):Prop:=∃vs:%o,vs.length≤sizeLine∧(∀u∈vs,OkU A u)∧
 (h.get? a=some {cls:=%0c,data:=%0S}∨%0h=some {cls:=#M,data:=%0S})
%tMZ.mono{h:Heap}{A B:&H}{a:Addr}(k:∀a∈A,a∈B)(x:MZ h A a):MZ h B a:=by
 o⟨vs,h1,h2,h3⟩:=x;e⟨vs,h1,λu hu=>(h2 u hu).mono k,h3⟩
%tJM{P:Params}{h:Heap}:∀{vs:%o} {ds:%3Y},WellAll P h vs ds→vs.length=ds.length
 |_,_,.nil=>rfl
 |_,_,.cons _ b=>by
  show _+1=_+1;rw[JM b]
%tWy{P:Params}{h:Heap}{v:Value}{ds:%3Y}(x:Well P h v (.list ds)):∃(a:Addr) (vs:%o),v=%N∧%0h=some {cls:=%0c,data:=%0S}∧WellAll P h vs ds:=by
 cases x with
 |list ho hall=>e⟨_,_,rfl,ho,hall⟩
%tUJ{P:Params}{h:Heap}{v:Value}{ds:%3Y}(x:Well P h v (.tuple ds)):∃(a:Addr) (vs:%o),v=%N∧%0h=some {cls:=#M,data:=%0S}∧WellAll P h vs ds:=by
 cases x with
 |tuple ho hall=>e⟨_,_,rfl,ho,hall⟩
%tWz{P:Params}{h:Heap}{us:%o}{d:WData}{ds:%3Y}(x:WellAll P h us (d::ds)):∃(v:Value) (vs:%o),us=v::vs∧Well P h v d∧WellAll P h vs ds:=by
 cases x with
 |cons a b=>e⟨_,_,rfl,a,b⟩
%tdj{n:Nat}(h:n≤1048576):n≤sizeLine:=%5Rh
section
variable{P:Params}{h:Heap}
mutual
%tk8:∀(d:WData) (v:Value),Well P h v d→plW d=true→d.weight≤1048576→∃A:&H,OkU A v∧∀a∈A,MZ h A a
 |.none,_,x,_,_=>by
  c x
  e⟨[],trivial,λa m=>%0bm⟩
 |.bool b,_,x,_,_=>by
  c x
  e⟨[],trivial,λa m=>%0bm⟩
 |.int i,_,x,_,_=>by
  c x
  e⟨[],trivial,λa m=>%0bm⟩
 |.str s,_,x,_,_=>by
  c x
  e⟨[],trivial,λa m=>%0bm⟩
 |.bytes b,_,x,_,_=>by
  c x
  e⟨[],trivial,λa m=>%0bm⟩
 |.list ds,_,x,p,z=>by
  o⟨a,vs,rfl,ho,hall⟩:=Wy x;q6;s9;rcases List.mem_cons.mp hb with e|m
  ·t;e⟨vs,dj (by rw[JM hall];e Nat.le_trans (PySem.W.length_le_weightAllW ds) z2),λu hu=>(h1 u hu).mono k,.inl ho⟩
  ·e(h2 b m).mono k
 |.tuple ds,_,x,p,z=>by
  o⟨a,vs,rfl,ho,hall⟩:=UJ x;q6;s9;rcases List.mem_cons.mp hb with e|m
  ·t;e⟨vs,dj (by rw[JM hall];e Nat.le_trans (PySem.W.length_le_weightAllW ds) z2),λu hu=>(h1 u hu).mono k,.inr ho⟩
  ·e(h2 b m).mono k
 |.float _,_,_,p,_=>%5O
 |.dict _,_,_,p,_=>%5O
 |.bytearray _,_,_,p,_=>%5O
 |.set _,_,_,p,_=>%5O
 |.frozenset _,_,_,p,_=>%5O
 |.obj _ _,_,_,p,_=>%5O
%tSk:∀(ds:%3Y) (vs:%o),WellAll P h vs ds→Uh ds=true→(∀d∈ds,d.weight≤1048576)→∃A:&H,(∀u∈vs,OkU A u)∧∀a∈A,MZ h A a
 |[],_,x,_,_=>by
  c x
  e⟨[],λu m=>%0bm,λa m=>%0bm⟩
 |d::ds,_,x,p,z=>by
  s6;o⟨A,a1,a2⟩:=k8 d v x1 q.1 (z d (List.mem_cons_self ..));o⟨B,b1,b2⟩:=Sk ds vs x2 q.2 λe he=>z e (#ahe);h kA:∀b∈A,b∈A++B:=λb hb=>List.mem_append.mpr (.inl hb);h kB:∀b∈B,b∈A++B:=λb hb=>List.mem_append.mpr (.inr hb);r⟨A++B,λu hu=>?_,λb hb=>?_⟩
  ·rcases List.mem_cons.mp hu with e|m
   ·t;e a1.mono kA
   ·e(b1 u m).mono kB
  ·rcases List.mem_append.mp hb with m|m
   ·e(a2 b m).mono kA
   ·e(b2 b m).mono kB
end
end
%dnQ(o:Obj):Option HO:=match o.data with
 |.seq vs _=>if(o.cls==Value.type "list")=true then ^Go(.lst (vs.toList.map toV)) else ^Go(.tup (vs.toList.map toV))
 |_=>none
%dMx(K:PySem.W.Frag)(h:Heap)(A:&H):Hp:=λb=>if b∈A then(if&1R.isNone=true then#W.bind nQ else none) else none
%daJ(H:Hp):Prop:=∀b,%O=none∨∃o u,%O=^Go u
%tZ5(vs:%o):nQ {cls:=%0c,data:=%0S}=^G{cls:=%0c,data:=%0S}(.lst &0I):=by
 show(if(Value.type "list"==Value.type "list")=true then some (HO.frz {cls:=%0c,data:=%0S} (.lst &5O)) else some (HO.frz {cls:=%0c,data:=%0S} (.tup &5O)))=_;rw[if_pos (beq_self_eq_true _)]
%tZ0(vs:%o):nQ {cls:=#M,data:=%0S}=^G{cls:=#M,data:=%0S}(.tup &0I):=by
 show(if(Value.type "tuple"==Value.type "list")=true then some (HO.frz {cls:=#M,data:=%0S} (.lst &5O)) else some (HO.frz {cls:=#M,data:=%0S} (.tup &5O)))=_;e7
section
variable{P:Program}{w:World}{K:PySem.W.Frag}{h:Heap}{A:List Addr}
%tUG{b:Addr}{o:Obj}(hb:b∈A)(hk:&1R=none)(e:#W=%b):Mx K h A b=nQ o:=by
 u Mx;rw[if_pos hb,hk,if_pos (show(none:Option Obj).isNone=true from rfl),e]<;>rfl
%tnu{b:Addr}{u:HO}(q:Mx K h A b=%x):b∈A∧&1R=none:=by
 u Mx at q;by_cases hb:b∈A
 ·rw[if_pos hb] at q
  cases hk:&1R with
  |none=>e⟨hb,rfl⟩
  |some o=>
   rw[hk,if_neg (by simp)] at q;c q
 ·rw[if_neg hb] at q;c q
%tUE(ar:∀a∈A,MZ h A a){b:Addr}{u:HO}(q:Mx K h A b=%x):&1R=none∧∃vs:%o,vs.length≤sizeLine∧(∀u∈vs,OkU A u)∧
 ((h.get? b=some {cls:=%0c,data:=%0S}∧u=.frz {cls:=%0c,data:=%0S} (.lst &0I))∨
  (h.get? b=some {cls:=#M,data:=%0S}∧u=.frz {cls:=#M,data:=%0S} (.tup &0I))):=by
 o⟨hb,hk⟩:=nu q;o⟨vs,h1,h2,h3⟩:=ar b hb;r⟨hk,vs,h1,h2,?_⟩;rcases h3 with e|e
 ·rw[UG hb hk e,Z5] at q;e .inl ⟨e,(Option.some.inj q).symm⟩
 ·rw[UG hb hk e,Z0] at q;e %4Ne((Option.some.inj q).symm)
%tgN(ar:∀a∈A,MZ h A a):aJ (Mx K h A):=λb=>by
 cases q:Mx K h A b with
 |none=>e %U
 |some u=>
  o⟨_,vs,_,_,⟨_,e⟩|⟨_,e⟩⟩:=UE ar q
  ·e .inr ⟨_,_,by rw[e]⟩
  ·e .inr ⟨_,_,by rw[e]⟩
%toJ(ar:∀a∈A,MZ h A a):HOk P w (Mx K h A) h:=λb u q=>by
 o⟨_,vs,h1,h2,⟨e,rfl⟩|⟨e,rfl⟩⟩:=UE ar q
 ·e⟨e,by rw[List.length_map];e h1,vs,_,KU h2,e⟩
 ·e⟨e,by rw[List.length_map];e h1,vs,KU h2,_,e,rfl,_,rfl⟩
%tUv{c c':Value}{vs us:%o}(e:(some {cls:=c,data:=%0S}:Option Obj)=some {cls:=c',data:=.seq us.toArray}):c=c'∧vs=us:=by
 h e1:=Option.some.inj e;h e2:c=c':=congrArg Obj.cls e1;h e3:Data.seq vs.toArray=Data.seq us.toArray:=congrArg Obj.data e1;injection e3 with e4
 r⟨e2,?_⟩;h e5:=congrArg Array.toList e4;simpa using e5
%tvJ(KX:%6m)(ar:∀a∈A,MZ h A a){a:Addr}{vs:%o}(ha:a∈A)(e:%0h=some {cls:=%0c,data:=%0S}):(∀u∈vs,OkU A u)∧SqL K (Mx K h A) a &0I:=by
 o⟨us,h1,h2,h3⟩:=ar a ha
 h hu:us=vs:=by
  rcases h3 with q|q
  ·rw[e] at q;e(Uv q).2.symm
  ·y0
 subst hu;r⟨h2,?_⟩
 cases hk:&5f with
 |none=>e .inl (%4N_(by rw[UG ha hk e,Z5]))
 |some o=>
  have e2:=KX a o hk;rw[e] at e2;o rfl:=Option.some.inj e2;e .inr ⟨_,us.toArray,_,hk,rfl,rfl,rfl,by rw[List.size_toArray];e h1,by simpa using KU h2⟩
%tvI(KX:%6m)(ar:∀a∈A,MZ h A a){a:Addr}{vs:%o}(ha:a∈A)(e:%0h=some {cls:=#M,data:=%0S}):(∀u∈vs,OkU A u)∧SqT K (Mx K h A) a &0I:=by
 o⟨us,h1,h2,h3⟩:=ar a ha
 h hu:us=vs:=by
  rcases h3 with q|q
  ·y0
  ·rw[e] at q;e(Uv q).2.symm
 subst hu;r⟨h2,?_⟩
 cases hk:&5f with
 |none=>e .inl (%4N_(by rw[UG ha hk e,Z0]))
 |some o=>
  have e2:=KX a o hk;rw[e] at e2;o rfl:=Option.some.inj e2;e .inr ⟨_,us.toArray,_,hk,rfl,rfl,by rw[List.size_toArray];e h1,by simpa using KU h2⟩
mutual
%trR{Pm:Params}(KX:%6m)(ar:∀a∈A,MZ h A a):∀(d:WData) (v:Value),Well Pm h v d→plW d=true→OkU A v→Dw K (Mx K h A) (toV v) d
 |.none,_,x,_,_=>by
  c x
  e .non
 |.bool b,_,x,_,_=>by
  c x
  e %7A
 |.int i,_,x,_,_=>by
  c x
  e ^x
 |.str s,_,x,_,_=>by
  c x
  e .str s
 |.bytes b,_,x,_,_=>by
  c x;h z:=Dw.byt (K:=K) (H:=Mx K h A) b.toArray
  e z
 |.list ds,_,x,p,hu=>by
  o⟨a,vs,rfl,ho,hall⟩:=Wy x;o⟨h2,hs⟩:=vJ KX ar hu ho
  e .lst hs (YI KX ar ds _ hall p h2)
 |.tuple ds,_,x,p,hu=>by
  o⟨a,vs,rfl,ho,hall⟩:=UJ x;o⟨h2,hs⟩:=vI KX ar hu ho
  e .tup hs (YI KX ar ds _ hall p h2)
 |.float _,_,_,p,_=>%5O
 |.dict _,_,_,p,_=>%5O
 |.bytearray _,_,_,p,_=>%5O
 |.set _,_,_,p,_=>%5O
 |.frozenset _,_,_,p,_=>%5O
 |.obj _ _,_,_,p,_=>%5O
%tYI{Pm:Params}(KX:%6m)(ar:∀a∈A,MZ h A a):∀(ds:%3Y) (vs:%o),WellAll Pm h vs ds→Uh ds=true→(∀u∈vs,OkU A u)→LM K (Mx K h A) &0I ds
 |[],_,x,_,_=>by
  c x
  e .nil
 |d::ds,_,x,p,hu=>by
  s6;e .cons (rR KX ar d v x1 q.1 (hu _ (List.mem_cons_self ..))) (YI KX ar ds vs x2 q.2 λu m=>hu u (#am))
end
end
%teM{P:Program}{w:World}{K:PySem.W.Frag}{mg mb:Str→&f}{CX:CXT}{k:Nat}{fa:Addr}{fd:FuncData}{ps:%u}{sp:Sp}{s₁:Shared}{vals:%o}{ds:%3Y}{R:PySem.W.WRecords}{cl:Str→%0v}{d0:WData}
 (KX:K.In s₁.heap) (hns:s₁.heap.Ns mainGlobals mg) (hb:s₁.heap.Ns builtinsNs mb) (hbb:∀x:Str,x≠"__name__"→mb x=&1A) (hlim:s₁.heap.NoLimit) (hg:s₁.gens=#[])
 (hwl:WellAll w.params s₁.heap vals ds) (hpl:Uh ds=true) (hwt:∀d∈ds,d.weight≤1048576) (hr:D3 k callerA)
 (F:∀base:Heap,K.In base→&4Emg→BC P w K mg base CX k fa fd ps sp) (hbind:∀(s:Shared) (us:%o),us.length=ps.length→BindsTo s fd %9R %3P) (hlen:ds.length=ps.length)
 (hsp:∀(H:Hp) (xs:%c),aJ H→LM K H xs ds→sp xs H (λv H'=>Dw K H' v d0) λ_ _ _=>False)
 (hCX:∀H e s',CX [] H s₁ (λ_ _ _=>False) e s'→False):
 codeAny (model P w) callerA (.call (.ref fa) ⟨vals,[]⟩) (λr s'=>∃u as,r=.ok (.ret u)∧ReadsW R cl s'.heap u d0 as∧OldK s₁.heap s'.heap∧s'.os=s₁.os∧&6p) s₁:=by
 o⟨A,ho,ar⟩:=Sk ds vals hwl hpl hwt;h hO:aJ (Mx K s₁.heap A):=gN ar;h hok:HOk P w (Mx K s₁.heap A) s₁.heap:=oJ ar;h hS:=YI KX ar ds vals hwl hpl ho;h hV:=KU ho;h hK:∀b u,Mx K s₁.heap A b=%x→&1R=none:=λb u q=>(UE ar q).1
 h noA:∀{b:Addr} {o:Obj} {es:%4B} {ep:Nat},s₁.heap.get? b=%b→o.data=%1Q→Mx K s₁.heap A b=none:=λ{b o es ep} e d=>by
  cases q:Mx K s₁.heap A b with
  |none=>rfl
  |some u=>
   o⟨_,vs,_,_,⟨e2,_⟩|⟨e2,_⟩⟩:=UE ar q
   ·rw[e2] at e;d;h d':Data.seq vs.toArray _=Data.dict es ep:=d;c d'
   ·rw[e2] at e;d;h d':Data.seq vs.toArray _=Data.dict es ep:=d;c d'
 generalize Mx K s₁.heap A=H at hO hok hS hK noA;h base_of:∀{b:Addr} {o:Obj},s₁.heap.get? b=%b→%O=none→(YE s₁.heap H).get? b=%b:=λe n=>j3 e n;h nsK:∀{b:Addr} {m:Str→&f},s₁.heap.Ns b m→(YE s₁.heap H).Ns b m:=λ{b m} ⟨o,es,ep,e,d,r⟩=>⟨o,es,ep,base_of e (noA e d),d,r⟩
 h nK:∀b o,&1R=%b→%O=none:=λb o e=>by
  cases q:%O with
  |none=>rfl
  |some u=>
   rw[hK b u q] at e;d
 h hKb:K.In (YE s₁.heap H):=λb o e=>base_of (KX b o e) (nK b o e)
 h hM:Mod K mg (YE s₁.heap H):=⟨hKb,nsK hns,⟨mb,nsK hb,hbb⟩,let⟨mc,h1,h2⟩:=hlim;⟨mc,nsK h1,h2⟩⟩
 h e0:Tn P w K mg (YE s₁.heap H) callerA [] s₁ H:=⟨rfl,hM,λb o e=>nq e,Nat.le_of_eq (gj _ _),trivial,λb hb=>%0b(show b∈([]:&H) from hb),hok,.of_eq hg⟩;h hl:vals.length=ps.length:=by rw[JM hwl];e hlen
 r codeAny_mono ((F _ hKb (nsK hns)).run callerA [] s₁ H ⟨vals,[]⟩ vals (vals.map toV) _ _ hr e0 (hbind s₁ vals hl) hV (hsp H _ hO hS)) λr s' x=>?_
 cases r with
 |error e=>e(hCX H e s' x).elim
 |ok fl=>
  cases fl with
  |next=>e &4O
  |brk=>e &4O
  |cont=>e &4O
  |ret u=>
   o⟨v,H',os,bare,un,hok',r',q⟩:=x
   h kept:∀b o,s₁.heap.get? b=%b→s'.heap.get? b=%b:=λb o e=>by
    cases q2:%O with
    |none=>e un.keep b o e q2 (by intro z;e %0b(show b∈([]:&H) from z)) (by simp)
    |some u2=>
     rcases hO b with z|⟨ob,u3,z⟩
     ·rw[q2] at z;c z
     ·h z2:=un.OW b ob _ z;o⟨e1,_⟩:=hok b _ z;o⟨e2,_⟩:=hok' b _ z2;rw[e] at e1;c e1;e e2
   h KX':K.In s'.heap:=λb o e=>kept b o (KX b o e);o⟨as,hrd⟩:=Dw.reads (R:=R) (cl:=cl) hok' KX' d0 v u q r';e⟨u,as,rfl,hrd,OldK.of_keep kept,os,bare⟩
%tVu{ds:%3Y}(h:WData.layableAll ds=true):∀d∈ds,d.weight≤1048576:=λd hd=>
 (PySem.W.layableW_iff.mp (List.all_eq_true.mp h d hd)).2.2
%tVJ:∀(cs:List Codec) (a:Codec.denoteAll cs),(Codec.encAll cs a).length=cs.length
 |[],_=>rfl
 |c::cs,a=>by
  show(Codec.encAll cs a.2).length+1=cs.length+1;rw[VJ cs a.2]
%teg{r:OpenSpec}{k:Nat}{q:Program}{loose:%u}{XP:(Str→&f)→Heap→Prop}{YP:World→Heap→Prop}{d:DefRec}{K:Params→PySem.W.Frag}{CX:World→CXT}{ps:%u}{sp:World→Sp}
 (hwell:r.wellSaid=true) (hdf:d.params.defaults=[]) (hlen:r.args.length=ps.length) (hr:D3 k callerA)
 (hY:∀(w:World) (h:Heap),YP w h→%5q.In h)
 (F:∀(w:World) (mg:Str→&f) (fa:Addr) (h:Heap),YP w h→%5q.In h→h.Ns mainGlobals mg→mg d.name=%efa→
   ∃fd:FuncData,(∀(s:Shared) (us:%o),us.length=ps.length→BindsTo s fd %9R %3P)∧
    ∀base:Heap,%5q.In base→&4Emg→BC r.prog w %5q mg base (CX w) k fa fd ps (sp w))
 (hsp:∀(w:World) (H:Hp) (xs:%c) (a:Codec.denoteAll r.args),aJ H→Codec.withinAll r.args a=true→Codec.app r.args r.asked a=true→LM %5q H xs (Codec.encAll r.args a)→
   sp w xs H (λv H'=>Dw %5q H' v (r.ret.enc (Codec.app r.args r.f a))) λ_ _ _=>False)
 (hCX:∀(w:World) (H:Hp) (s:Shared) (e:Value) (s':Shared),CX w [] H s (λ_ _ _=>False) e s'→False):
 PySem.W.WalkOS q loose XP YP r d [] (λf vs=>PySem.call f vs):=by
 intro w s_0 s₁ mg mb G Y fa o pm cd doc dV kV ho hd hcd hD hmg hg args vals as hpre hlay hrd hwl hlo;o⟨a,e1,e2⟩:=PySem.W.os_pre_some hpre;o⟨e3,hwi⟩:=Codec.encAll_of_decAll r.args args a e1;subst e3;h KX:=hY w _ Y;o⟨fd,hb,hF⟩:=F w mg fa _ Y KX G.T.g hmg
 r PySem.W.enter_call (codeAny_mono (eM (R:=[]) (cl:=classAt s_0.heap) (d0:=r.ret.enc (Codec.app r.args r.f a)) KX G.T.g G.T.b G.T.builtins G.T.nolimit hg hwl (WS _ _) (Vu hlay) hr hF hb (by rw[VJ];e hlen)
  (λH xs hO hS=>hsp w H xs a hO hwi e2 hS) λH e s'=>hCX w H s₁ e s') λr' s' hq=>?_)
 o⟨u,as',rfl,h1,h2,h3,h4⟩:=hq;e⟨.inl ⟨u,_,as',rfl,λ_=>rfl,h1,(OpenSpec.post_iff hwell hwi _ _).mpr rfl,λz=>Bool.noConfusion (show false=true from z)⟩,h2,h3,h4⟩
end L2
end
namespace JU
open PySem PySem.Spec PyProof.Rows L2 L2.G Tilt
%dsg(b:UInt8):Nat:=if b=37 then 10 else if b=10 then 37 else b.toNat
%tbc{a b:UInt8}(h:sg a=sg b):a=b:=by
 u sg at h;h t:∀x y:UInt8,x.toNat=y.toNat→x=y:=λx y e=>UInt8.toNat_inj.mp e;h t1:∀x:UInt8,x.toNat=10→x=10:=λx e=>t x 10 e;h t2:∀x:UInt8,x.toNat=37→x=37:=λx e=>t x 37 e;split at h<;>split at h<;>(try split at h)<;>(try split at h)<;>first|(subst_vars;rfl)|e t _ _ h|(exfalso;first|e absurd (t1 _ h.symm) ‹_›|e absurd (t2 _ h.symm) ‹_›|e absurd (t1 _ h) ‹_›|e absurd (t2 _ h) ‹_›|omega)
%dS(w:Bytes):Str:=⟨(w.map sg).toArray⟩
%tVo:∀{a b:Bytes},a.map sg=b.map sg→a=b
 |[],[],_=>rfl
 |[],_::_,h=>by simp at h
 |_::_,[],h=>by simp at h
 |x::a,y::b,h=>by
  s[List.map_cons,List.cons.injEq] at h;rw[bc h.1,Vo h.2]
%tLK{a b:Bytes}:S a=S b↔a=b:=⟨λh=>Vo (by simpa [S] using h),λh=>by rw[h]⟩
%dfx(F:Fault):#x:=[("kind",(F.kind:Int)),("place",(F.place:Int))]
%dSim{α β:Type}(r:%8w)(s:%0K)(Q:α→β→%a→Prop):Prop:=match s with
 |.error F=>r=&0c
 |.ok a=>∃v h',r=^Ov∧Q a v h'
%dDq{α:Type}(r:SR)(s:%0K)(Q:α→SR→Prop):Prop:=match s with
 |.error F=>r=&0c
 |.ok a=>Q a r
section
variable{α β γ δ:Type}{r:Res β}{s:Except Fault α}{Q:α→β→List O→Prop}
%tSim.st{k:β→%a→SR}{k':α→#wγ}{Q':γ→SR→Prop}(h:Sim r s Q)(hk:∀a v h',Q a v h'→Dq (k v h') (k' a) Q'):Dq (r.st k) (s>>= k') Q':=by
 cases s with
 |error F=>rw[show r=_ from h];rfl
 |ok a=>o⟨v,h',rfl,q⟩:=h;e hk a v h' q
%tSim.bind{k:β→%a→Res δ}{k':α→#wγ}{Q':γ→δ→%a→Prop}(h:Sim r s Q)(hk:∀a v h',Q a v h'→Sim (k v h') (k' a) Q'):Sim %8j (s>>= k') Q':=by
 cases s with
 |error F=>rw[show r=_ from h];rfl
 |ok a=>o⟨v,h',rfl,q⟩:=h;e hk a v h' q
%tSim.map{k':α→γ}{Q':γ→β→%a→Prop}(h:Sim r s Q)(hk:∀a v h',Q a v h'→Q' (k' a) v h'):Sim r (s.map k') Q':=by
 cases s with
 |error F=>e h
 |ok a=>o⟨v,h',rfl,q⟩:=h;e⟨v,h',rfl,hk a v h' q⟩
%tSim.imp{Q':α→β→%a→Prop}(h:Sim r s Q)(hk:∀a v h',Q a v h'→Q' a v h'):Sim r s Q':=by
 cases s with
 |error F=>e h
 |ok a=>o⟨v,h',rfl,q⟩:=h;e⟨v,h',rfl,hk a v h' q⟩
%tSim.ret{v:β}{h:%a}{a:α}{Q:α→β→%a→Prop}(q:Q a v h):Sim %8D (pure a) Q:=⟨v,h,rfl,q⟩
%dDn(Q:α→W→%a→Prop):α→SR→Prop:=λa r=>match r with
 |.rt v h=>Q a v h
 |.nx _ h=>Q a .non h
 |_=>False
end
%tLW{α:Type}{r:%4h}{k:α→%a→SR}{b:Sa→%a→SR}:(r.st k).bind b=r.st λv h=>(k v h).bind b:=by c r<;>rfl
%tSg{α β:Type}{r:%4h}{k:α→%a→%8w}{b:β→%a→SR}:%8j.st b=r.st λv h=>(k v h).st b:=by c r<;>rfl
%tLH{α β γ:Type}{r:%4h}{k:α→%a→%8w}{b:β→%a→Res γ}:%8j.bind b=r.bind λv h=>(k v h).bind b:=by c r<;>rfl
%tma{r:SR}{k b:Sa→%a→SR}:%8j.bind b=r.bind λσ h=>(k σ h).bind b:=by c r<;>rfl
@[simp] theorem A3 {α β:Type} {v:α} {h:%a} {k:α→%a→%8w}:(Res.ok v h).bind k=k v h:=rfl
@[simp] theorem N9 {α β:Type} {c:Str} {fs:#x} {k:α→%a→%8w}:(Res.exc c fs:%4h).bind k=%5a:=rfl
@[simp] theorem F6 {α:Type} {v:α} {h:%a} {k:α→%a→SR}:(Res.ok v h).st k=k v h:=rfl
@[simp] theorem rN {α:Type} {c:Str} {fs:#x} {k:α→%a→SR}:(Res.exc c fs:%4h).st k=%5a:=rfl
@[simp] theorem B7 {σ:Sa} {h:%a} {k:Sa→%a→SR}:(SR.nx σ h).bind k=k σ h:=rfl
@[simp] theorem me {v:W} {h:%a} {k:Sa→%a→SR}:(SR.rt v h).bind k=.rt v h:=rfl
@[simp] theorem eT {c:Str} {fs:#x} {k:Sa→%a→SR}:(SR.exc c fs).bind k=%5a:=rfl
%dwd(w:Word):W:=&2t
%dpc(w:Word):W:=.int (w.at_:Nat)
%dJt(all:%g)(pl:W)(e t:Nat):O:=.ins "Line" [("words",.lst (all.map wd)),("places",pl),("end",.int (e:Nat)),("taken",.int (t:Nat))]
%dFC(j:Nat)(h h':%a):Prop:=h'.length=h.length∧∀k,k≠j→h'[k]? =h[k]?
%tFC.refl{j:Nat}{h:%a}:FC j h h:=⟨rfl,λ_ _=>rfl⟩
%tFC.trans{j:Nat}{h h1 h2:%a}(a:FC j h h1)(b:FC j h1 h2):FC j h h2:=⟨b.1.trans a.1,λk e=>(b.2 k e).trans (a.2 k e)⟩
%tFC.set{j:Nat}{h:%a}{o:O}:FC j h (h.set j o):=⟨by simp,λk e=>by rw[List.getElem?_set,if_neg (Ne.symm e)]⟩
%tBo{h:%a}{j:Nat}{o:O}(e:h[j]? =%b):j<h.length:=&4n.1
%tAq{h:%a}{j:Nat}{o o':O}(e:h[j]? =%b):(h.set j o')[j]? =some o':=by rw[List.getElem?_set,%9l,if_pos (Bo e)]
%tAc{h:%a}{j k:Nat}{o':O}(e:j≠k):(h.set j o')[k]? =h[k]?:=by rw[List.getElem?_set,if_neg e]
%dfin:SR→Res W
 |.rt v h=>%8D
 |.nx _ h=>%s.non
 |.exc c fs=>%5a
 |.bad=>.bad
%tCg{n:Nat}{b:FS}{xs:%m}{h:%a}:BY n b xs h=fin (b (xs.map some++%5S(n-xs.length)) h):=by
 u BY fin;c b (xs.map some++%5S(n-xs.length)) h<;>rfl
@[simp] theorem kf {v:W} {h:%a}:fin (.rt v h)=%8D:=rfl
@[simp] theorem kg {σ:Sa} {h:%a}:fin (%1Vh)=%s.non:=rfl
@[simp] theorem nR {c:Str} {fs:#x}:fin %5a=%5a:=rfl
%dmth(c m:Str)(x:W)(h:%a)(k:%p):%p:=match x with
 |.ref i=>match h[i]? with
  |some (.ins c' fs)=>if c'=c∧&3p=none then k else .bad
  |_=>.bad
 |_=>.bad
%taf{c m:Str}{n:Nat}{ff:FF}{a:FE}{r:FA}{σ:Sa}{h:%a}:Ao c m n ff a r σ h=(a σ h).bind λx h1=>mth c m x h1 ((r σ h1).bind λxs h2=>if xs.length+1=n then ff (x::xs) h2 else .bad):=by
 u Ao mth
 cases a σ h with
 |ok x h1=>
  s[A3]
  c x<;>rfl
 |exc c fs=>rfl
 |bad=>rfl
%tC4{h:%a}{j:Nat}{c f:Str}{fs:%3S}{x:W}(hj:h[j]? =some (.ins c fs))(hf:%3N=%v):BN f &g h=&0a:=by
 s[BN,hj,hf]
%tEb{h:%a}{j:Nat}{c f:Str}{fs:%3S}{v:W}(hj:h[j]? =some (.ins c fs))(hf:fs.length<1000):Fj f v &g h=%9Ij(.ins c (bz f v fs)):=by
 s[Fj,hj,if_pos hf]
section
variable{b j e t:Nat}{h:List O}{pre l all:List Word}{pl:W}
%tVG(hj:h[j]? =some (Jt all pl e t)):BN "words" &g h=%3j(all.map wd):=%3Chj
%tXe(hj:h[j]? =some (Jt all pl e t)):BN "places" &g h=%spl:=%3Chj
%trJ(hj:h[j]? =some (Jt all pl e t)):BN "end" &g h=%1F(e:Nat):=%3Chj
%tLw(hj:h[j]? =some (Jt all pl e t)):BN "taken" &g h=%1F(t:Nat):=%3Chj
%tiP{k:Nat}(hj:h[j]? =some (Jt all pl e t)):Fj "taken" (.int (k:Nat)) &g h=%9Ij(Jt all pl e k):=Eb hj (by simp)
%tYa(hj:h[j]? =some (Jt all pl e t)):Bg %3i h=&K(decide (t<all.length)):=by
 xr [Bg,MV,Lw hj,VG hj,BM,NO,Int.ofNat_lt,List.length_map]
%tMw{α:Type}{xs:#y}{i:Nat}:atI xs (i:Int)=xs[i]?:=by
 u atI ixN;rw[if_pos (Int.natCast_nonneg i)];by_cases q:i<xs.length
 ·rw[if_pos (Int.ofNat_lt.mpr q)];a
 ·rw[if_neg (λz=>q (Int.ofNat_lt.mp z))];e(List.getElem?_eq_none (Nat.le_of_not_lt q)).symm
%tiR{w:Word}{p:Nat}(hj:h[j]? =some (Jt all %7Q e (t+1)))(hp:h[p]? =%V(all.map pc))(hw:all[t]? =some w):Av %3i h=%1F(w.at_:Nat):=by
 h e1:((t+1:Nat):Int)-1=(t:Nat):=%w;xr [Av,Ug,Lw hj,Xe hj,oIx,AH,hp,Option.orElse,e1,Mw,List.getElem?_map,hw,Option.map_some,pc]
end
%dBok(w:Bytes):Prop:=w≠[]∧w.length≤65536∧∀c∈w,32<c∧c≤126
%tQm{p:UInt8→Prop} [DecidablePred p](h:∀n:Fin 256,p (UInt8.ofNat n.val))(c:UInt8):p c:=by
 h:=h ⟨c.toNat,c.toNat_lt⟩;f3
%trS:∀c:UInt8,(32<c∧c≤126)→Unicode.isDigit (sg c)=%9t:=&2M
%tUA:∀c:UInt8,%9t=true→sg c=c.toNat∧48≤c.toNat∧c.toNat≤57:=&2M
%tiB:∀c:UInt8,decide (sg c∈("abcdefghijklmnopqrstuvwxyz":Str).cps.toList)=&3R:=&2M
%tlX:∀c:UInt8,decide (sg c∈("abcdefghijklmnopqrstuvwxyz0123456789_":Str).cps.toList)=(isSmall c||(isDigit c||c==95)):=&2M
%tMY(w:Bytes):%1Y.length=w.length:=by simp[S,Str.length]
%tQn(w:Bytes):%1Y.cps.toList=w.map sg:=by simp[S]
%tOD{it:Nat→%a→%9e}{i:Nat}{fe:FE}{σ:Sa}{h:%a}{f:W→W}:∀(xs:%m) (j:Nat) (acc:%m),(∀k,k≤xs.length→it (j+k) h=some xs[k]?)→(∀x∈xs,(∃h',fe (%8o%v) h=^O(f x))∧TV (f x)=true)→acc.length+xs.length≤sizeLine→
 lcK it i fe σ h xs.length j acc=%3j(acc++xs.map f)
 |[],j,acc,hi,_,_=>by
  h:=hi 0 %L;s[Nat.add_zero,List.getElem?_nil] at this
  simp[lcK,this]
 |x::xs,j,acc,hi,hf,hn=>by
  h h0:=hi 0 #q;s[Nat.add_zero,List.getElem?_cons_zero] at h0;o⟨⟨h',e⟩,fl⟩:=hf x (List.mem_cons_self ..);c7
  h r:=OD (f:=f) xs (j+1) (acc++[f x]) (λk hk=>by
   h:=hi (k+1) (by simpa using hk);rw[List.getElem?_cons_succ] at this
   rw[←this];congr 1;omega) (λy hy=>hf y (#ahy)) (by simp;omega)
  s[List.length_cons,lcK,h0,e,fl,true_and];rw[if_pos %w,r];i
%tZG{c:Nat}{z:Str}{neg:Bool}{h:%a}:Vf neg %9k &1c h=&K(if neg then !decide (c∈z.cps.toList) else decide (c∈z.cps.toList)):=rfl
%tXr{α:Type}{p:α→Bool}:∀xs:#y,Xs (xs.map λx=>.bl (p x))=some (xs.map p)
 |[]=>rfl
 |x::xs=>by simp[Xs,Xr xs]
%tRq{w:Bytes}{h:%a}(hl:w.length≤65536):BM %8d h=%1F(w.length:Nat):=by
 h hz:%1Y.length≤sizeLine:=by rw[MY];e %5Rhl
 s[BM,NO,if_pos hz];rw[MY]
%tnv{w:Bytes}{h:%a}{i:Nat}{c:UInt8}(hl:w.length≤65536)(hi:w[i]? =&q):oIx %0y &0u h=%s&5e:=by
 h hz:%1Y.length≤sizeLine:=by rw[MY];e %5Rhl
 s[oIx,if_pos hz,Mw,Qn,List.getElem?_map,hi,Option.map_some]
%dCI(z:Str):W→W:=λx=>match x with|.str y=>.bl (decide (y.cps.getD 0 0∈z.cps.toList))|_=>.non
%tuj{w:Bytes}{h:%a}{z:Str}(hl:w.length≤65536):fLc (iS &Z) 1 (Am (Vf false) &M (%Cz)) [%1K,none] h=%3j(w.map λc=>.bl (decide (sg c∈z.cps.toList))):=by
 xr [fLc,iS]
 h:=OD (it:=λi _=>some (%1Y.cps[i]?.map λc=>W.str &4m)) (i:=1) (fe:=Am (Vf false) &M (%Cz)) (σ:=[some %0y,none]) (h:=h) (f:=CI z)
  (w.map λc=>&5e) 0 [] (λk _=>by simp[S,Function.comp_def]) (λx hx=>by
    o⟨d,_,rfl⟩:=&4x
    e⟨⟨h,by xr [ZG];rfl⟩,rfl⟩) (by simp;e %5Rhl)
 y4;rw[hsz];r this.trans ?_;n2;a
%tjE{α:Type}{p:α→Bool}{xs:#y}{h:%a}:fP false [.lst (xs.map λx=>.bl (p x))] h=&K(xs.all p):=by
 s[fP,AH,Option.bind_some,Xr,List.all_map];a
%tNr{w:Bytes}{h:%a}(hw:w≠[])(hl:w.length≤65536):Ly %8d h=&K&2g:=by
 o⟨c,r,rfl⟩:=List.exists_cons_of_ne_nil hw;h e0:=nv (h:=h) (i:=0) hl (by rfl:(c::r)[0]? =&q);s[Int.natCast_zero] at e0;xr [Ly,Xz,Rq hl,e0,ZG,iB]
 h e3:isName (c::r)=(decide ((c::r).length≤12)&&((c::r).all (λ(c:UInt8)=>&3R||(isDigit c||c==95))&&isSmall c)):=by
  u isName;rw[decide_eq_true (by simp:1≤(c::r).length)];s[Bool.true_and,NAME,List.head?_cons,Option.map_some,Option.getD_some];a
 rw[e3];by_cases h12:(12:Int)<((r.length+1:Nat):Int)
 ·h q:¬(c::r).length≤12:=by s[List.length_cons];omega
  rw[decide_eq_false q];xr [decide_eq_true h12,Bool.false_and]
 ·h q:(c::r).length≤12:=by s[List.length_cons];omega
  rw[decide_eq_true q];xr [decide_eq_false h12,Bool.true_and]
  cases hs:&3R with
  |false=>xr [Bool.and_false]
  |true=>
   have eA:(fLc (iS &Z) 1 (Am (Vf false) &M (%C"abcdefghijklmnopqrstuvwxyz0123456789_")) [%3E(c::r),none] h).bind (λv h1=>(fP false [v] h1))=&K((c::r).all λc=>&3R||(isDigit c||c==95)):=by
    rw[uj hl,A3,jE];s[lX]
   xr [Bool.and_true];rw[←Sg,eA];a
%tPB{α β:Type}{f:α→β}{p:β→Bool}{q:α→Bool}:∀{xs:#y},(∀x∈xs,p (f x)=q x)→(xs.map f).all p=xs.all q
 |[],_=>rfl
 |x::xs,h=>by s[List.map_cons,List.all_cons,&4ux,PB λy hy=>h y (#ahy)]
%tbH{w:Bytes}{h:%a}(hw:∀c∈w,32<c∧c≤126):fL %1Y h=&K(!w.isEmpty&&w.all isDigit):=by
 u fL Txt.isdigit
 h:%1Y.cps.all Unicode.isDigit=w.all isDigit:=by
  rw[←Array.all_toList,Qn];e PB λc hc=>rS c (hw c hc)
 rw[this,MY];c w<;>simp
%tQs{w:Bytes}{c:UInt8}{h:%a}:Oy %1Y (%Z[c]) h=&K(decide (w.head? =&q)):=by
 s[Oy,Txt.startswith,Builtin.Str.subAt];rw[MY w,MY [c]]
 cases w with
 |nil=>simp
 |cons d r=>
  have:((S (d::r)).cps.extract 0 (0+([c]:Bytes).length)==(S [c]).cps)=decide (d=c):=by
   s[S,List.length_cons,List.length_nil];h e:((List.map sg (d::r)).toArray.extract 0 (0+(0+1)))=#[sg d]:=by simp
   t;by_cases q:d=c
   ·subst q;i
   ·simp[q];intro z;e q (bc z)
  l;i
%taa:∀(w:Bytes) (n:Nat),(∀c∈w,%9t=true)→(w.map sg).foldl (λacc c=>acc*10+(c-48)) n=w.foldl (λ(n:Nat) (c:UInt8)=>10*n+(c.toNat-48)) n
 |[],_,_=>rfl
 |c::w,n,h=>by
  s[List.map_cons,List.foldl_cons];rw[(UA c (&4uc)).1,aa w _ λd hd=>h d (#ahd),Nat.mul_comm]
%tjB{w:Bytes}{h:%a}(hw:w≠[])(hl:w.length≤10)(hd:∀c∈w,%9t=true):jC %8d h=%1F((w.foldl (λ(n:Nat) (c:UInt8)=>10*n+(c.toNat-48)) 0:Nat):Int):=by
 h e:=PySem.intText_digits (x:=%1Y) (by
  rw[Qn];intro c hc;o⟨d,hd',rfl⟩:=List.mem_map.mp hc;o⟨a,b⟩:=UA d (hd d hd')
  rw[a];e b) (by rw[Qn];simpa using hw) (by rw[MY];omega)
 u PySem.NumText.digitsVal at e;rw[Qn,aa w 0 hd] at e;s[jC,e];rw[if_pos (by rw[MY];omega)]
%dpn(w:Bytes):&3x:=if w.length≤10 then numberOf w else none
%doW:&3x→W
 |some n=>.int (n:Nat)
 |none=>.non
%tsI:("0":Str)=S [48]:=by decide+kernel
%td6:("-":Str)=S [45]:=by decide+kernel
%trun_plain{w:Bytes}{h:%a}(hl:w.length≤65536)(hw:∀c∈w,32<c∧c≤126):EB %8d h=%s(oW (pn w)):=by
 h eq0:oEq true %0y (%Z[48]) h=&K(!decide (w=[48])):=by s[oEq,LK,if_true]
 xr [EB,Oo,fM0,fM1,bH hw,Rq hl,sI,Qs];by_cases h1:(!w.isEmpty&&w.all isDigit)=true
 ·xr [h1];by_cases h2:(10:Int)<(w.length:Nat)
  ·h:pn w=none:=by u pn;rw[if_neg %w]
   xr [decide_eq_true h2,this,oW]
  ·xr [decide_eq_false h2,eq0,Qs];h h10:w.length≤10:=%w;rw[Bool.and_eq_true,Bool.not_eq_true'] at h1;h hne:w≠[]:=by intro z;rw[z] at h1;simp at h1
   h hd:∀c∈w,%9t=true:=List.all_eq_true.mp h1.2;by_cases h3:w.head? =some 48
   ·xr [decide_eq_true h3];by_cases h4:w=[48]
    ·h:pn w=some (w.foldl (λ(n:Nat) (c:UInt8)=>10*n+(c.toNat-48)) 0):=by subst h4;decide
     xr [decide_eq_true h4,jB hne h10 hd,this,oW]
    ·h:pn w=none:=by u pn numberOf;rw[if_pos h10,if_pos (^b⟨h3,h4⟩)]
     xr [decide_eq_false h4,this,oW]
   ·h:pn w=some (w.foldl (λ(n:Nat) (c:UInt8)=>10*n+(c.toNat-48)) 0):=by
     u pn numberOf
     rw[if_pos h10,if_neg (by
      rintro(z|z|z)
      ·rw[h1.1] at z;c z
      ·rw[h1.2] at z;c z
      ·e h3 z.1)]
    xr [decide_eq_false h3,jB hne h10 hd,this,oW]
 ·h:pn w=none:=by
   u pn numberOf;B
   ·rw[if_pos];rw[Bool.and_eq_true,Classical.not_and_iff_not_or_not,Bool.not_eq_true',Bool.not_eq_false,Bool.not_eq_true] at h1;rcases h1 with z|z
    ·e %8x
    ·e %8E
   ·a
  rw[Bool.not_eq_true] at h1;xr [h1,this,oW]
%tWW{c:UInt8}{r:Bytes}{h:%a}(hl:(c::r).length≤65536):fK (%Z(c::r)) (some 1) none h=%s(%Zr):=by
 h hz:(S (c::r)).length≤sizeLine:=by rw[MY];e %5Rhl
 h e1:HT.sIx (S (c::r)).length 0 (some 1)=1:=by
  rw[MY,show(1:Int)=((1:Nat):Int) from rfl,HT.Q8];i8;b
 s[fK,if_pos hz,kN,e1,HT.Np];rw[Qn,MY];s[List.map_cons,List.drop_succ_cons,List.drop_zero,List.length_cons,Nat.add_sub_cancel];rw[List.take_of_length_le (by simp)];a
%dzW:%S→W
 |some n=>.int n
 |none=>.non
%tNB:∀(w:Bytes) (n:Nat),n*10^w.length≤w.foldl (λ(n:Nat) (c:UInt8)=>10*n+(c.toNat-48)) n
 |[],n=>by simp
 |c::w,n=>by
  h r:=NB w (10*n+(c.toNat-48));s[List.foldl_cons,List.length_cons,Nat.pow_succ];r Nat.le_trans ?_ r;rw[Nat.mul_comm (10^w.length) 10,←Nat.mul_assoc];e Nat.mul_le_mul_right _ %w
%tWq{w:Bytes}{n:Nat}(h:numberOf w=%9Y)(hl:10<w.length):10^10≤n:=by
 u numberOf at h;L
 ·c h
 ·rename_i hn;c h
  obtain⟨c,r,rfl⟩:∃c r,w=c::r:=by
   cases w with
   |nil=>simp at hl
   |cons c r=>e⟨c,r,rfl⟩
  h hd:%9t=true:=by
   cases q:%9t with
   |true=>rfl
   |false=>e absurd (%7O(by simp[q])) hn
  h h0:c≠48:=by
   X;r hn (^b(%4i?_));intro z;rw[z] at hl;simp at hl
  h d:=UA c hd
  h h1:1≤c.toNat-48:=by
   h:c.toNat≠48:=λz=>h0 (UInt8.toNat_inj.mp z);b
  h r':=NB r (10*0+(c.toNat-48));s[List.foldl_cons];r Nat.le_trans ?_ r';s[List.length_cons] at hl;h:10^10≤10^r.length:=Nat.pow_le_pow_right (by decide) %w;e Nat.le_trans this (Nat.le_mul_of_pos_left _ %w)
%tYf{w:Bytes}{n:Nat}(h:pn w=none)(hn:numberOf w=%9Y):10^10≤n:=by
 u pn at h;L
 ·rw[h] at hn;c hn
 ·e Wq hn %w
%tYe{w:Bytes}{n:Nat}(h:pn w=%9Y):numberOf w=%9Y:=by
 u pn at h;L
 ·e h
 ·c h
%tLZ{w:Bytes}{h:%a}(hw:w≠[])(hl:w.length≤65536)(hb:∀c∈w,32<c∧c≤126):D7 %8d h=%s(zW (intOf w)):=by
 q7;h hl':r.length≤65536:=Nat.le_trans (Nat.le_succ _) hl;xr [D7,MT,d6,Qs,List.head?_cons,Option.some.injEq];by_cases h1:c=45
 ·subst h1;xr [decide_true,WW hl,run_plain hl' hb'];h e1:intOf (45::r)=(if r=[48] then none else(numberOf r).bind λ(n:Nat)=>if &6f=true then some (-(n:Int)) else none):=rfl;A
  cases hp:pn r with
  |none=>
   xr [oW,oIs,Lr];by_cases q:r=[48]
   ·subst q;e absurd hp (by decide)
   ·R
    cases hn:numberOf r with
    |none=>rfl
    |some n=>
     have:=Yf hp hn;h:&6f=false:=by u fitsInt;rw[decide_eq_false %w];rfl
     simp[this,zW]
  |some n=>
   have hn:=Ye hp;xr [oW,oIs,Lr,oEq];by_cases h0:n=0
   ·subst h0
    h:r=[48]:=by
     u numberOf at hn;split at hn
     ·c hn
     ·rename_i hx
      cases r with
      |nil=>e absurd %U hx
      |cons d t=>
       have hz:=NB t (10*0+(d.toNat-48));s[List.foldl_cons,Option.some.injEq] at hn;rw[hn] at hz
       h hd:isDigit d=true:=by
        cases q:isDigit d with
        |true=>rfl
        |false=>e absurd (%7O(by simp[q])) hx
       h dv:=UA d hd;h hp10:0<10^t.length:=Nat.pow_pos (by decide)
       h h0:10*0+(d.toNat-48)=0:=by
        rcases Nat.eq_zero_or_pos (10*0+(d.toNat-48)) with z|z
        ·e z
        ·e absurd (Nat.mul_pos z hp10) %w
       h:d=48:=UInt8.toNat_inj.mp (by show d.toNat=48;omega);subst this
       cases t with
       |nil=>rfl
       |cons x y=>e absurd (^b(%4i(by simp))) hx
    xr [Int.natCast_zero,decide_true,&4U,zW]
   ·h hi:¬(n:Int)=0:=%w;h hr:r≠[48]:=by rintro rfl;h:numberOf [48]=some 0:=(by decide);rw[this] at hn;e h0 (Option.some.inj hn).symm
    xr [decide_eq_false hi,if_neg hr,hn,Option.bind_some];by_cases h2:(-(n:Int))< -2147483648
    ·h:&6f=false:=by u fitsInt;rw[decide_eq_false %w];rfl
     xr [decide_eq_true h2,this,zW]
    ·h:&6f=true:=by u fitsInt;rw[decide_eq_true %w,&0g];rfl
     xr [decide_eq_false h2,this,zW]
 ·h e1:intOf (c::r)=&6t.bind λ(n:Nat)=>if fitsInt n=true then some (n:Int) else none:=by
   u intOf;B
   ·rename_i z;c z;e ^Uh1
   ·a
  A;xr [decide_eq_false h1,run_plain hl hb]
  cases hp:pn (c::r) with
  |none=>
   xr [oW,oIs,Lr]
   cases hn:&6t with
   |none=>rfl
   |some n=>
    have:=Yf hp hn;q1
    simp[this,zW]
  |some n=>
   have hn:=Ye hp;xr [oW,oIs,Lr,hn,Option.bind_some];by_cases h2:(2147483647:Int)<n
   ·q1;xr [decide_eq_true h2,this,zW]
   ·h:fitsInt (n:Int)=true:=by u fitsInt;rw[decide_eq_true %w,&0g];rfl
    xr [decide_eq_false h2,this,zW]
%tiV{w:Bytes}{h:%a}(hw:w≠[])(hl:w.length≤65536)(hb:∀c∈w,32<c∧c≤126):FU %8d h=&K(likeInt w):=by
 q7;xr [FU,LI,d6,Qs,List.head?_cons,Option.some.injEq];by_cases h1:c=45
 ·subst h1;xr [decide_true,WW hl,bH hb',likeInt,List.head?_cons,List.drop_succ_cons,List.drop_zero]
 ·h e:likeInt (c::r)=(!(c::r).isEmpty&&(c::r).all isDigit):=by
   u likeInt;rw[if_neg (by simpa using h1)]
  t;xr [decide_eq_false h1,bH hb]
%dLA(b:Nat→Prop)(h:%a)(j:Nat)(pre l:%g)(e:Nat):Prop:=b j∧(∀w∈pre++l,Bok w.w)∧∃pl,h[j]? =some (Jt (pre++l) pl e pre.length)∧(pl=%M∧pre++l=[]∨∃p,pl=%7Q∧b p∧p≠j∧h[p]? =%V((pre++l).map pc))
%dokm(m:Str):Bool:=(["words","places","end","taken"]:%u).all λf=>decide (m≠f)
%tbG{m:Str}(h:okm m=true){a b c d:W}:List.lookup m [(("words":Str),a),("places",b),("end",c),("taken",d)]=none:=by
 s[okm,List.all_cons,List.all_nil,Bool.and_true,Bool.and_eq_true,decide_eq_true_eq] at h;o⟨h1,h2,h3,h4⟩:=h;h t:∀{x y:Str},x≠y→(x==y)=false:=λe=>beq_eq_false_iff_ne.mpr e;s[List.lookup,t h1,t h2,t h3,t h4]
%tYi:okm "has_more"=true:=by decide+kernel
%tZy:okm "next_is"=true:=by decide+kernel
%tjw:okm "spot"=true:=by decide+kernel
%tjv:okm "take"=true:=by decide+kernel
%tWi:okm "take_word"=true:=by decide+kernel
%tU8:okm "finish"=true:=by decide+kernel
%tWj:okm "take_name"=true:=by decide+kernel
%tYh:okm "take_new"=true:=by decide+kernel
%tU6:okm "take_known"=true:=by decide+kernel
%tUj:okm "take_number"=true:=by decide+kernel
%tUi:okm "take_signed"=true:=by decide+kernel
%tU7:okm "take_above"=true:=by decide+kernel
%tVl{h:%a}{j:Nat}{all:%g}{pl:W}{e t:Nat}(hj:h[j]? =some (Jt all pl e t))(m:Str)(k:%p)(hm:okm m=true):mth "Line" m &g h k=k:=by
 s[mth,hj,Jt,bG hm,and_self,if_true]
section
variable{b:Nat→Prop}{j e:Nat}{h h':List O}{pre l r:List Word}{w:Word}
%tLA.mth(L:&k)(m:Str)(k:%p)(hm:okm m=true):mth "Line" m &g h k=k:=by
 e8;e Vl hj m k hm
%tLA.ok(L:&k):∀w∈l,Bok w.w:=λw hw=>L.2.1 w (%8Vhw)
%tLA.ge(L:&k):b j:=L.1
%tLA.lt(L:&k):j<h.length:=by o⟨_,_,pl,hj,_⟩:=L;e Bo hj
%tLA.low(L:&k)(k:∀i o,^C→h[i]? =%b→h'[i]? =%b):LA b h' j pre l e:=by
 o⟨a1,a2,pl,hj,q⟩:=L;r⟨a1,a2,pl,k _ _ a1 hj,?_⟩;g6
 ·e %6l
 ·e .inr ⟨p,rfl,h1,h2,k _ _ h1 h3⟩
%tLA.mono{b':Nat→Prop}(L:&k)(k:∀i,^C→b' i):%8ab':=by
 o⟨a1,a2,pl,hj,q⟩:=L;r⟨k _ a1,a2,pl,hj,?_⟩;g6
 ·e %6l
 ·e .inr ⟨p,rfl,k _ h1,h2,h3⟩
%tLA.rng(L:&k):%8a(λi=>^C∧i<h.length):=by
 o⟨a1,a2,pl,hj,q⟩:=L;r⟨⟨a1,Bo hj⟩,a2,pl,hj,?_⟩;g6
 ·e %6l
 ·e .inr ⟨p,rfl,⟨h1,Bo h3⟩,h2,h3⟩
%tLA.more(L:&k):Bg %3i h=&K(!l.isEmpty):=by
 e8;rw[Ya hj]
 cases l with
 |nil=>simp
 |cons w r=>simp
%tLA.Fc(L:%4Rb h j l e):Av %3i h=%1F(w.at_:Nat):=by
 o⟨_,_,pl,hj,q⟩:=L;rcases q with⟨_,q⟩|⟨p,rfl,h1,h2,h3⟩
 ·simp at q
 ·rw[List.length_append] at hj;e iR (t:=pre.length) hj h3 (by simp)
%tLA.take(L:&1yb(w::r)):∃h',Bw %3i h=^O&2t∧FC j h h'∧%4Rb h' j r e:=by
 h5;h hg:=Aq (o':=Jt (pre++w::r) pl e (pre.length+1)) hj;r⟨h.set j (Jt (pre++w::r) pl e (pre.length+1)),?_,.set,a1,by simpa using a2,pl,?_,?_⟩
 ·h e1:((pre.length:Nat):Int)+1=((pre.length+1:Nat):Int):=%w;h e2:((pre.length+1:Nat):Int)-1=((pre.length:Nat):Int):=%w
  h e3:oIx (.lst ((pre++w::r).map wd)) (.int (pre.length:Nat)) (h.set j (Jt (pre++w::r) pl e (pre.length+1)))=.ok &2t (h.set j (Jt (pre++w::r) pl e (pre.length+1))):=by
   simp[oIx,AH,Mw,wd]
  xm [Bw,Ot,Vl hj,L.more,List.isEmpty_cons,Lw hj,e1,iP hj,VG hg,Lw hg,e2,e3]
 ·h:(pre++[w]++r)=pre++w::r:=by simp
  rw[this,hg];i
 ·h:(pre++[w]++r)=pre++w::r:=by simp
  l;g6
  ·e %6l
  ·e .inr ⟨p,rfl,h1,h2,by rw[Ac (Ne.symm h2)];e h3⟩
%tLA.none(L:&1yb []):Bw %3i h=%7r3 e:=by
 h5;xm [Bw,Ot,Vl hj,L.more,List.isEmpty_nil,rJ hj];a
%dAdv(b:Nat→Prop)(h:%a)(j:Nat)(pre r:%g)(e:Nat)(w:Word)(h':%a):Prop:=FC j h h'∧%4Rb h' j r e∧Bok w.w
%tQN(L:&k):Sim (Bw %3i h) (next e l) (λa v h'=>v=%Za.1.w∧Adv b h j pre a.2 e a.1 h'∧l=a.1::a.2):=by
 cases l with
 |nil=>e L.none
 |cons w r=>
  e5;e⟨_,h',e1,rfl,⟨s1,L1,&2Hw⟩,rfl⟩
end
section
variable{b:Nat→Prop}{j e:Nat}{h h':List O}{pre l r:List Word}{w:Word}
%tFo(L:&k){x:Str}:AY [&g,%0J] h=&K(match l with|w::_=>decide (S w.w=x)|[]=>false):=by
 h5
 cases l with
 |nil=>xm [AY,JF,L.mth,L.more,List.isEmpty_nil]
 |cons w r=>
  have e3:oIx (.lst ((pre++w::r).map wd)) (.int (pre.length:Nat)) h=%s&2t:=by simp[oIx,AH,Mw,wd]
  xm [AY,JF,L.mth,L.more,List.isEmpty_cons,VG hj,Lw hj,e3,oEq]
%tC5{s:String}{x:Str}(L:&k)(hs:S &2u=x):Sim (AA [&g,%0J] h) (must e s l) (λa v h'=>∃w,Adv b h j pre a e w h'∧l=w::a):=by
 cases l with
 |nil=>
  xm [AA,HJ,L.mth,L.none]
  rfl
 |cons w r=>
  e5;subst hs;xm [AA,HJ,L.mth,e1,oEq,LK];u must;show Sim _ (if w.w=&2u then _ else _) _;by_cases q:w.w=&2u
  ·a5;xm [decide_eq_true q];e⟨_,h',rfl,w,⟨s1,L1,&2Hw⟩,rfl⟩
  ·R;xm [decide_eq_false q,L1.mth,L1.Fc];a
%ta8(L:&k):Sim (BD %3i h) (closed l) (λ_ v h'=>v=.non∧h'=h∧l=[]):=by
 h5
 cases l with
 |nil=>
  xm [BD,KO,L.mth,L.more,List.isEmpty_nil]
  e⟨_,_,rfl,rfl,rfl,trivial⟩
 |cons w r=>
  rcases q with⟨_,q⟩|⟨p,rfl,h1,h2,h3⟩
  ·simp at q
  ·h e3:oIx %7Q (.int (pre.length:Nat)) h=%1F(w.at_:Nat):=by simp[oIx,AH,Mw,h3,pc]
   xm [BD,KO,L.mth,L.more,List.isEmpty_cons,Xe hj,Lw hj,e3];a
%tLU(L:&1yb(w::r)):∃h',Bx %3i h=(if ^f=true then ^O&2t else %7r4 w.at_)∧Adv b h j pre r e w h':=by
 e5;h ok:=&2Hw;r⟨h',?_,s1,L1,ok⟩;xm [Bx,HK,L.mth,e1,Nr ok.1 ok.2.1]
 cases q:^f with
 |true=>xm []
 |false=>
  xm [L1.mth,L1.Fc];a
%tJa(L:&1yb []):Bx %3i h=%7r3 e:=by
 xm [Bx,HK,L.mth,L.none]
%dSU(e:Nat)(ns had:#s)(l:%g):#w(Bytes×%g):=do
 let x←next e l
 if isName x.1.w=false then &2w4 else if ns.contains x.1.w=true then &2w4 else if had.contains x.1.w=true then &2w5 else return (x.1.w,x.2)
%tuo{w:Bytes}{ns:#s}:inW %0y (ns.map λn=>%5D)=ns.contains w:=by
 induction ns with
 |nil=>rfl
 |cons n ns ih=>
  have:eqW %5D %0y=(w==n):=by
   show(S n==%1Y)=(w==n);by_cases q:w=n
   ·subst q;i
   ·rw[beq_eq_false_iff_ne.mpr q,beq_eq_false_iff_ne.mpr λz=>q (LK.mp z).symm]
  t3
%tNz{w:Bytes}{ns:#s}{t:W}{neg:Bool}(ht:D4 t=some (ns.map λn=>%5D))(hn:AH t h=none):Uq neg %0y t h=&K(if neg then !ns.contains w else ns.contains w):=by
 h:(ns.map λn=>%6on).all EA=true:=by simp[EA]
 s[Uq,hn,Option.orElse,ht,EA,this,Bool.and_self,if_true,uo]
%tIX{α:Type}{nm:α→Bytes}{vl:α→W}{n:Bytes}:∀xs:#y,%1N(xs.map λx=>((.inr &0U:Key),%1u))(S n)=(xs.find? λx=>%8t==n).map vl
 |[]=>rfl
 |x::xs=>by
  h ih:=IX (nm:=nm) (vl:=vl) (n:=n) xs;u Fb at ih ⊢;s[List.map_cons,List.find?_cons];by_cases q:%8t=n
  ·simp[q]
  ·h:decide ((Sum.inr &0U:Key)=Sum.inr (S n))=false:=decide_eq_false (by simpa [LK] using q);rw[this,beq_eq_false_iff_ne.mpr q];e ih
%tC6{d:Nat}{kvs:&u}(hd:h[d]? =#gkvs):Ho ^z h=some kvs:=by s[Ho,hd]
%tCp{α:Type}{nm:α→Bytes}{n:Bytes}:∀xs:#y,(xs.find? λx=>%8t==n).isSome=%4K.contains n
 |[]=>rfl
 |x::xs=>by
  h ih:=Cp (nm:=nm) (n:=n) xs;s[List.find?_cons,List.map_cons,List.contains_cons];by_cases q:%8t=n
  ·subst q;i
  ·rw[beq_eq_false_iff_ne.mpr q,beq_eq_false_iff_ne.mpr (Ne.symm q)];simpa using ih
%tbI{α:Type}{nm:α→Bytes}{vl:α→W}{xs:#y}{d:Nat}{n:Bytes}{neg:Bool}(hd:h[d]? =#g(xs.map λx=>((.inr &0U:Key),%1u))):Ip neg %5D ^z h=&K(if neg then !%4K.contains n else%4K.contains n):=by
 h:(%1N(xs.map λx=>((.inr &0U:Key),%1u))(S n)).isSome=%4K.contains n:=by
  rw[IX,Option.isSome_map,Cp]
 s[Ip,C6 hd,keyOf,this]
%tcX{α:Type}{nm:α→Bytes}{vl:α→W}{xs:#y}{d:Nat}{n:Bytes}{x:α}(hd:h[d]? =#g(xs.map λx=>((.inr &0U:Key),%1u)))(hx:(xs.find? λx=>%8t==n)=%v):Bf ^z %5D h=%s%1u:=by
 s[Bf,C6 hd,keyOf,IX,hx,Option.map_some]
%dDA(h:%a)(d:Nat){α:Type}(nm:α→Bytes)(vl:α→W)(xs:#y):Prop:=h[d]? =#g(xs.map λx=>((.inr &0U:Key),%1u))
%tDA.ne{α:Type}{nm:α→Bytes}{vl:α→W}{xs:#y}{d:Nat}(D:DA h d nm vl xs)(L:&k):d≠j:=by
 X;e8;u DA at D;rw[D] at hj;c hj
%tDA.same{α:Type}{nm:α→Bytes}{vl:α→W}{xs:#y}{d:Nat}(D:DA h d nm vl xs)(hd:d≠j)(s:FC j h h'):DA h' d nm vl xs:=(s.2 d hd).trans D
%tLX{α:Type}{nm:α→Bytes}{vl:α→W}{xs:#y}{d:Nat}{ns:#s}{t:W}(L:&k)(D:DA h d nm vl xs)(ht:D4 t=some (ns.map λn=>%5D))(hn:∀h,AH t h=none):
 Sim (By [&g,^z,t] h) (SU e ns %4K l) (λa v h'=>v=%Za.1∧∃w,Adv b h j pre a.2 e w h'∧w.w=a.1∧l=w::a.2∧%4K.contains a.1=false∧isName a.1=true∧ns.contains a.1=false):=by
 cases l with
 |nil=>
  xm [By,Gj,L.mth,Ja L]
  rfl
 |cons w r=>
  o⟨h',e1,A⟩:=LU L;i3;h D1:=D.same (D.ne L) s1;u SU;g2
  cases q:^f with
  |false=>
   rw[q] at e1;s[Bool.false_eq_true,if_false] at e1;xm [By,Gj,L.mth,e1]
   rfl
  |true=>
   rw[q] at e1;s[if_true] at e1;a0;xm [By,Gj,L.mth,e1,Nz ht (hn h')]
   cases q2:ns.contains w.w with
   |true=>
    xm [L1.mth,L1.Fc]
    rfl
   |false=>
    xm [bI D1]
    cases q3:%4K.contains w.w with
    |true=>
     xm [L1.mth,L1.Fc]
     rfl
    |false=>
     xm [];e⟨_,h',rfl,rfl,w,A,rfl,rfl,q3,q,q2⟩
%tDr{α:Type}{nm:α→Bytes}{vl:α→W}{xs:#y}{d:Nat}(L:&k)(D:DA h d nm vl xs):
 Sim (Al %9u h) (%1d%4K l) (λa v h'=>∃x w,xs[a.1.1]? =%v∧v=%1u∧a.1.2=w.at_∧Adv b h j pre a.2 e w h'∧l=w::a.2∧%8t=w.w):=by
 cases l with
 |nil=>
  xm [Al,Fi,L.mth,Ja L]
  rfl
 |cons w r=>
  o⟨h',e1,A⟩:=LU L;i3;h D1:=D.same (D.ne L) s1;u known;g2
  cases q:^f with
  |false=>
   rw[q] at e1;s[Bool.false_eq_true,if_false] at e1;xm [Al,Fi,L.mth,e1]
   rfl
  |true=>
   rw[q] at e1;s[if_true] at e1;a0;xm [Al,Fi,L.mth,e1,bI D1];rw[List.findIdx?_map]
   cases q2:xs.findIdx? ((λn=>n==w.w)∘nm) with
   |none=>
    have:%4K.contains w.w=false:=by
     rw[←Cp,Option.isSome_eq_false_iff,Option.isNone_iff_eq_none,List.find?_eq_none];Y;h:=List.findIdx?_eq_none_iff.mp q2 x hx;f3
    xm [this,L1.mth,L1.Fc]
    rfl
   |some i=>
    o⟨hi,hx,hlt⟩:=List.findIdx?_eq_some_iff_getElem.mp q2;h hf:(xs.find? λx=>%8t==w.w)=some xs[i]:=List.find?_eq_some_iff_getElem.mpr ⟨hx,i,hi,rfl,λk hk=>by simpa using hlt k hk⟩;h:%4K.contains w.w=true:=by rw[←Cp,hf];rfl
    xm [this,cX D1 hf];e⟨_,h',rfl,xs[i],w,by simp,rfl,rfl,A,rfl,by simpa using hx⟩
%dnW(n:Nat):W:=.int (n:Nat)
%tDN{lo hi:Nat}(L:&k)(hh:hi<10^10):Sim (AR [&g,.int (lo:Nat),.int (hi:Nat)] h) (number e lo hi l) (λa v h'=>v=&0Q∧lo≤a.1.1∧a.1.1≤hi∧∃w,a.1.2=w.at_∧Adv b h j pre a.2 e w h'∧l=w::a.2):=by
 cases l with
 |nil=>
  xm [AR,GB,L.mth,L.none]
  rfl
 |cons w r=>
  e5;h ok:=&2Hw;xm [AR,GB,L.mth,e1,run_plain ok.2.1 ok.2.2];u number;show Sim _ (match numberOf w.w with|none=>_|some n=>_) _
  cases hp:pn w.w with
  |none=>
   xm [oW,oIs,Lr,L1.mth,L1.Fc]
   cases hn:numberOf w.w with
   |none=>rfl
   |some n=>
    have:=Yf hp hn;show Sim _ (if n<lo∨hi<n then _ else _) _;rw[if_pos (show n<lo∨hi<n from .inr %w)]
    rfl
  |some n=>
   rw[Ye hp];show Sim _ (if n<lo∨hi<n then _ else _) _;xm [oW,oIs,Lr];by_cases q1:(n:Int)<lo
   ·rw[if_pos (show n<lo∨hi<n from &1z)];xm [decide_eq_true q1,L1.mth,L1.Fc];a
   ·xm [decide_eq_false q1];by_cases q2:(hi:Int)<n
    ·rw[if_pos (show n<lo∨hi<n from .inr %w)];xm [decide_eq_true q2,L1.mth,L1.Fc];a
    ·rw[if_neg (show¬(n<lo∨hi<n) by omega)];xm [decide_eq_false q2];e⟨_,h',rfl,rfl,(show lo≤n by omega),(show n≤hi by omega),w,rfl,⟨s1,L1,ok⟩,rfl⟩
%tXt{o:&3x}{f:Nat→Int}{z:Int}(hp:(o.bind λn=>if fitsInt (f n)=true then some (f n) else none)=%9U):fitsInt z=true:=by
 cases o with
 |none=>c hp
 |some n=>
  rw[Option.bind_some] at hp;split at hp
  ·T;c hp;e q
  ·c hp
%tbX{w:Bytes}{z:Int}(hp:intOf w=%9U):fitsInt z=true:=by
 u intOf at hp;split at hp
 ·split at hp
  ·c hp
  ·e Xt hp
 ·e Xt hp
%ta0(L:&k):Sim (DX %3i h) (intWord e l) (λa v h'=>v=.int a.1∧fitsInt a.1=true∧∃w,Adv b h j pre a.2 e w h'∧l=w::a.2):=by
 cases l with
 |nil=>
  xm [DX,GA,L.mth,L.none]
  rfl
 |cons w r=>
  e5;h ok:=&2Hw;xm [DX,GA,L.mth,e1,LZ ok.1 ok.2.1 ok.2.2];u intWord;show Sim _ (match intOf w.w with|some z=>_|none=>_) _
  cases hp:&1Z with
  |none=>
   xm [zW,oIs,Lr,L1.mth,L1.Fc]
   rfl
  |some z=>
   xm [zW,oIs,Lr];h hf:=bX hp;e⟨_,h',rfl,rfl,hf,w,⟨s1,L1,ok⟩,rfl⟩
end
%tVH{α:Type}{r:%4h}{k:α→%a→SR}:fin (r.st k)=r.bind λv h=>fin (k v h):=by c r<;>rfl
%tVi{γ:Type}{e:Nat}{d:Bytes}{had:#s}{l:%g}{k:Bytes×%g→#wγ}:(notCalled d l>>= λ_=>(newName e had l>>= k))=(SU e [d] had l>>= k):=by
 cases l with
 |nil=>rfl
 |cons w r=>
  show(holds (w.w != d) 4 w.at_>>= λ_=>((if ^f=false then _ else _)>>= k))=((if ^f=false then _ else _)>>= k);u holds;h e1:([d]:#s).contains w.w=(w.w==d):=by s[List.contains_cons,List.contains_nil,Bool.or_false]
  by_cases q:w.w=d
  ·rw[if_neg (by simp[q])];show Except.error _=_;by_cases q2:^f=false
   ·rw[if_pos q2];a
   ·rw[if_neg q2,e1,if_pos (by simp[q])];a
  ·rw[if_pos (by simp[q])];show((if ^f=false then _ else _)>>= k)=_;by_cases q2:^f=false
   ·rw[if_pos q2,if_pos q2]
   ·rw[if_neg q2,if_neg q2,e1,if_neg (show¬(w.w==d)=true by simpa using q)]
%tMf{e:Nat}{had:#s}{l:%g}:%7Ihad l=SU e [] had l:=by
 cases l with
 |nil=>rfl
 |cons w r=>
  show(if ^f=false then _ else _)=(if ^f=false then _ else _);by_cases q2:^f=false
  ·rw[if_pos q2,if_pos q2]
  ·rw[if_neg q2,if_neg q2];a
%tDZ{k p:Nat}:holds true k p=.ok ():=rfl
%tEW{k p:Nat}:holds false k p=%1fk p:=rfl
%dAsc(ps:%r):Prop:=ps.Pairwise (·<·)
%tAsc.last{ps:%r}(a:Asc ps){p:Nat}:(ps.all λq=>decide (q<p))=(match ps.getLast? with|some q=>decide (q<p)|none=>true):=by
 induction ps with
 |nil=>rfl
 |cons x r ih=>
  have ih:=ih (List.Pairwise.tail a);rw[List.all_cons,ih]
  cases r with
  |nil=>simp
  |cons y r=>
   have:(x::y::r).getLast? =(y::r).getLast?:=by simp[List.getLast?_cons_cons]
   l
   cases hq:(y::r).getLast? with
   |none=>simp at hq
   |some q=>
    have hm:q∈y::r:=List.mem_of_getLast? hq;h hx:x<q:=(List.pairwise_cons.mp a).1 q hm;v;by_cases z:q<p
    ·rw[decide_eq_true z,decide_eq_true (Nat.lt_trans hx z)];a
    ·rw[decide_eq_false z,Bool.and_false]
%tk7{ps:%r}:atI %7f (-1)=ps.getLast?.map nW:=by
 u atI ixN;e7
 cases ps with
 |nil=>simp
 |cons x r=>
  rw[if_pos (by simp;omega)];h:(-1+(((x::r).map nW).length:Int)).toNat=r.length:=by s[List.length_map,List.length_cons];omega
  rw[this,Option.bind_some,List.getElem?_map,List.getLast?_eq_getElem?];i
section
variable{b:Nat→Prop}{j e:Nat}{h h':List O}{pre l r:List Word}{w:Word}
%dKA(ps:%r)(p:Nat):Bool:=ps.all λq=>decide (q<p)
%tSz{α:Type}{nm:α→Bytes}{vl:α→Nat}{xs:#y}{d p:Nat}{ps:%r}(L:&k)(D:DA h d nm (λx=>nW %1u) xs)(hp:h[p]? =%V%7f)(ha:Asc ps):
 Sim (Cm [&g,^z,%7Q] h) (known e %4K l>>= λx=>%7s(KA ps (((xs[x.1.1]?).map vl).getD 0))5>>= λ_=>%1M) (λa v h'=>∃x w,xs[a.1.1]? =%v∧v=nW %1u∧a.1.2=w.at_∧Adv b h j pre a.2 e w h'∧l=w::a.2∧KA ps %1u=true):=by
 h hpj:p≠j:=by
  X;e8;rw[hp] at hj;c hj
 xb [Cm,Ko,L.mth];r %Q(Dr L D);m1;i3;h hp':h'[p]? =%V%7f:=(s1.2 p hpj).trans hp;h e1:((xs[a.1.1]?).map vl).getD 0=%1u:=by rw[hx];rfl
 A;h e2:KA ps %1u=_:=ha.last;h t1:ir %7Q h'=^O(!%7f.isEmpty):=by s[ir,hp']
 xb [t1]
 cases hl:ps.getLast? with
 |none=>
  have:ps=[]:=List.getLast?_eq_none_iff.mp hl;subst this;xb [List.isEmpty_nil]
  e⟨_,h',rfl,x,w,hx,rfl,ea,A,el,rfl⟩
 |some q=>
  have hne:ps≠[]:=by intro z;rw[z] at hl;c hl
  h:%7f.isEmpty=false:=by simpa using hne
  rw[hl] at e2;h e3:oIx %7Q (.int (-1)) h'=^O(nW q):=by s[oIx,AH,hp',Option.orElse,k7,hl,Option.map_some]
  xb [this,e3,nW];by_cases z:(vl x:Int)≤q
  ·h:KA ps %1u=false:=by rw[e2];e decide_eq_false %w
   rw[this,EW,ea];xb [decide_eq_true z,L1.mth,L1.Fc];a
  ·h:KA ps %1u=true:=by rw[e2];e decide_eq_true %w
   rw[this,DZ];xb [decide_eq_false z];e⟨_,h',rfl,x,w,hx,rfl,ea,A,el,this⟩
%tZg{ss:#s}{bf:&3x}(L:&k)(h2:2≤ss.length)(hb:∀i,bf=some i→i<ss.length)(hnd:ss.Nodup):
 Sim (CB [&g,.ktp (ss.map λs=>%1r),(match bf with|none=>.non|some i=>%Z(ss.getD i []))] h)
  (next e l>>= λx=>if(match bf with|none=>&2a|some i=>&2ni 1).contains x.1.w=true then %1M else &2w3)
  (λa v h'=>v=%Za.1.w∧Adv b h j pre a.2 e a.1 h'∧l=a.1::a.2∧(match bf with|none=>&2a|some i=>&2ni 1).contains a.1.w=true):=by
 xb [CB,TZ,L.mth];r %Q(QN L);rintro a v h' ⟨rfl,A,el⟩;i3;h hlen:(ss.map λs=>%6os).length=ss.length:=List.length_map ..
 h fin':∀ts:#s,Sim (if &6h=true then Res.ok (%6oa.1.w) h' else %7r3 a.1.at_) (if &6h=true then pure a else %1f3 a.1.at_) (λa v h'=>v=%Za.1.w∧Adv b h j pre a.2 e a.1 h'∧l=a.1::a.2∧&6h=true):=by
  intro ts;by_cases q:&6h=true
  ·rw[if_pos q,%7i];e⟨_,h',rfl,rfl,A,el,q⟩
  ·rw[if_neg q,%3V];a
 cases bf with
 |none=>
  have:ZC (.ktp (ss.map λs=>%1r)) none (some 1) h'=^O(.tup (&2a.map λs=>%1r)):=by
   h e1:HT.sIx ss.length ss.length (some 1)=1:=by
    rw[show(1:Int)=((1:Nat):Int) from rfl,HT.Q8];b
   s[ZC,D4,HT.Np,hlen,e1];d5;s[ax,HT.Np,hlen,e1,List.drop_zero,Nat.sub_zero,List.map_take]
  xb [oIs,Lr,this,Nz (h:=h') (t:=W.tup (&2a.map λs=>%1r)) (ns:=&2a) rfl rfl];r cast ?_ (fin' &2a);n
  cases q:&2a.contains a.1.w with
  |true=>xb []
  |false=>
   xb [L1.mth,L1.Fc]
   rfl
 |some i=>
  have hi:=hb i rfl;h hm:max i 1≤ss.length:=%w
  h e0:Tz (ss.map λs=>%1r) [%Z(ss.getD i [])] h'=^O&0u:=by
   h hx:ss.getD i []=ss[i]:=by rw[List.getD_eq_getElem?_getD,%3D];rfl
   h hf:(ss.map λs=>%6os).findIdx? (λz=>eqW z (%Z(ss.getD i [])))=some i:=by
    y1;r⟨hi,?_,λk hk=>?_⟩
    ·rw[hx];show(S ss[i]==S ss[i])=true;i
    ·rw[hx];show¬(S ss[k]==S ss[i])=true;rw[beq_iff_eq,LK];e List.pairwise_iff_getElem.mp hnd k i (Nat.lt_trans hk hi) hi hk
   h hfl:(ss.map λs=>%6os).all EA=true:=by simp[EA]
   s[Tz,EA,hfl,Bool.and_self,if_true,hf]
  h e1:jA [&0u,%6r] h'=^O(.int ((max i 1:Nat):Int)):=by
   s[jA];congr 2;split<;>omega
  h this:ZC (.ktp (ss.map λs=>%1r)) (some ((max i 1:Nat):Int)) none h'=^O(.tup ((&2ni 1).map λs=>%1r)):=by
   h e1:HT.sIx ss.length 0 (some ((max i 1:Nat):Int))=max i 1:=by
    rw[HT.Q8];b
   s[ZC,D4,HT.Np,hlen,e1];d5;s[ax,HT.Np,hlen,e1,List.map_drop];rw[List.take_of_length_le (by simp)]
  xb [oIs,Lr,fTM,e0,e1,this,Nz (h:=h') (t:=W.tup ((&2ni 1).map λs=>%1r)) (ns:=&2ni 1) rfl rfl];r cast ?_ (fin' (&2ni 1));n
  cases q:(&2ni 1).contains a.1.w with
  |true=>xb []
  |false=>
   xb [L1.mth,L1.Fc];a
end
%dKW(ps:%r):&u:=ps.map λ(p:Nat)=>((.inl (p:Int):Key),W.bl true)
%dpairD(l:%5Z):&u:=l.map λp=>((.inl (p.1:Int):Key),nW p.2)
%dFp{α:Type}(nm:α→Bytes)(vl:α→W)(xs:#y):&u:=xs.map λx=>((.inr &0U:Key),%1u)
%tVw{p:Nat}:keyOf %6L=some &4P:=rfl
%teh{kvs:&u}{k:Key}:Fb kvs k=none↔∀p∈kvs,p.1≠k:=by
 u Fb;rw[Option.map_eq_none_iff,List.find?_eq_none];a6
 ·intro h p hp z;e h p hp (by simpa using z)
 ·intro h p hp;simpa using h p hp
%tft{kvs:&u}{k:Key}{v:W}(h:Fb kvs k=none):Tw kvs k v=kvs++[(k,v)]:=by
 u Tw;rw[if_neg];rw[List.any_eq_true];rintro⟨p,hp,z⟩;e eh.mp h p hp (by simpa using z)
%tWB{ps:%r}{p:Nat}:(Fb (KW ps) &4P).isSome=&6D:=by
 induction ps with
 |nil=>rfl
 |cons q ps ih=>
  u Fb KW at ih ⊢;s[List.map_cons,List.find?_cons,List.contains_cons];by_cases z:q=p
  ·y;i
  ·h:decide ((Sum.inl (q:Int):Key)=Sum.inl (p:Int))=false:=decide_eq_false (by s[Sum.inl.injEq];omega);rw[this,beq_eq_false_iff_ne.mpr &5A];simpa using ih
%tSr{l:%5Z}{p:Nat}:Fb (pairD l) &4P=(l.find? λx=>x.1==p).map λx=>#S:=by
 induction l with
 |nil=>rfl
 |cons q l ih=>
  u Fb pairD at ih ⊢;s[List.map_cons,List.find?_cons];by_cases z:q.1=p
  ·y;i
  ·h:decide ((Sum.inl (q.1:Int):Key)=Sum.inl (p:Int))=false:=decide_eq_false (by s[Sum.inl.injEq];omega);rw[this,beq_eq_false_iff_ne.mpr z];e ih
section
variable{h:List O}{d:Nat}
%tLf{ps:%r}{p:Nat}{neg:Bool}(hd:h[d]? =#g(KW ps)):Ip neg %6L ^z h=&K(if neg then !ps.contains p else &6D):=by
 s[Ip,C6 hd,Vw,WB]
%tfM{l:%5Z}{p:Nat}{neg:Bool}(hd:h[d]? =#g(pairD l)):Ip neg %6L ^z h=&K(if neg then !(l.any λx=>x.1==p) else l.any λx=>x.1==p):=by
 h:((l.find? λx=>x.1==p).map λx=>#S).isSome=l.any λx=>x.1==p:=by
  rw[Option.isSome_map,List.isSome_find?]
 s[Ip,C6 hd,Vw,Sr,this]
%tVg{l:%5Z}{p:Nat}{x:Nat×Nat}(hd:h[d]? =#g(pairD l))(hx:(l.find? λx=>x.1==p)=%v):Bf ^z %6L h=%s#S:=by
 s[Bf,C6 hd,Vw,Sr,hx,Option.map_some]
%tUW{kvs:&u}{y v:W}{k:Key}(hd:h[d]? =#gkvs)(hy:&2r=%6t)(hn:Fb kvs k=none)(hl:kvs.length<sizeLine):OO ^z y v h=%9Id(.dct (kvs++[(k,v)])):=by
 s[OO,C6 hd,hy,if_pos hl,ft hn]
%tHt{α:Type}{nm:α→Bytes}{vl:α→W}{xs:#y}{x:α}(hd:DA h d nm vl xs)(hn:%4K.contains %8t=false)(hl:xs.length<sizeLine):OO ^z (%Z%8t) %1u h=%9Id(.dct (Fp nm vl (xs++[x]))):=by
 rw[UW (k:=.inr &0U) hd rfl (by
  rw[IX];rw[←Cp,Option.isSome_eq_false_iff,Option.isNone_iff_eq_none] at hn
  rw[hn];rfl) (by simpa using hl)]
 simp[Fp]
%tSA{ps:%r}{p:Nat}(hd:h[d]? =#g(KW ps))(hn:&6D=false)(hl:ps.length<sizeLine):OO ^z %6L &4f h=%9Id(.dct (KW (ps++[p]))):=by
 rw[UW (k:=&4P) hd rfl (by rw[←Option.isNone_iff_eq_none,←Option.isSome_eq_false_iff,WB];e hn) (by simpa [KW] using hl)];simp[KW]
%tWM{l:%5Z}{p v:Nat}(hd:h[d]? =#g(pairD l))(hn:∀x∈l,x.1≠p)(hl:l.length<sizeLine):OO ^z %6L (nW v) h=%9Id(%9w(l++[(p,v)])):=by
 rw[UW (k:=&4P) hd rfl (by
  rw[Sr,Option.map_eq_none_iff,List.find?_eq_none]
  intro x hx;simpa using hn x hx) (by simpa [pairD] using hl)]
 simp[pairD]
end
%dgE(n:Nat):Nat→Prop:=λi=>n≤i
structure TS where
 balls:Nat
 drained:Nat
 sw:List Switch
 la:List Lamp
 co:List Coil
 mo:%5Z
 ho:%5Z
 de:List (Device×Nat)
 dc:%r
 ds:%r
 kp:%r
 kc:%r
%dUM(balls drained:Nat):%3S:=[("balls",nW balls),("switches",.ref 1),("lamps",%7y),("coils",.ref 3),("mosts",.ref 4),("holding",.ref 5),("devices",.ref 6),("device_coils",.ref 7),("device_switches",.ref 8),("drained",nW drained),("kick_places",.ref 9),("kick_coils",.ref 10)]
%dHU(SP:O)(X:TS):Nat→O
 |0=>&4j(UM X.balls X.drained)
 |1=>.dct (Fp Switch.name (λs=>%0x) X.sw)
 |2=>.dct (Fp Lamp.name (λs=>%0x) X.la)
 |3=>.dct (Fp Coil.name (λs=>%0x) X.co)
 |4=>%9wX.mo
 |5=>%9wX.ho
 |6=>.dct (Fp (λx:Device×Nat=>x.1.name) (λx=>#S) X.de)
 |7=>.dct (KW X.dc)
 |8=>.dct (KW X.ds)
 |9=>.lst (X.kp.map nW)
 |10=>.dct (KW X.kc)
 |_=>SP
%dCT(SP:O)(h:%a)(X:TS):Prop:=∀i,i<12→h[i]? =some (HU SP X i)
section
variable{SP:O}{h h':List O}{X X':TS}{j:Nat}
%tCT.same(T:#Th X)(hj:12≤j)(s:FC j h h'):#Th' X:=λi hi=>(s.2 i %w).trans (T i hi)
%tCT.set{i:Nat}{o:O}(T:#Th X)(hi:i<12)(hs:∀k,k<12→k≠i→HU SP X' k=HU SP X k)(ho:HU SP X' i=o):#T(h.set i o)X':=by
 intro k hk;by_cases z:k=i
 ·y;rw[Aq (T k hk),ho]
 ·rw[Ac &5A,T k hk,hs k hk z]
%tCT.app{g:%a}(T:#Th X):#T(h++g)X:=λi hi=>by
 rw[List.getElem?_append_left (Bo (T i hi))];e T i hi
%tLA.Ss{b e i:Nat}{pre l:%g}{o:O}(L:%8a(gE b))(hi:i<b):LA (gE b) (h.set i o) j pre l e:=L.low λk o hk q=>by rw[Ac (Nat.ne_of_lt (Nat.lt_of_lt_of_le hi hk))];e q
%tCT.lt(T:#Th X):12≤h.length:=Bo (T 11 (by decide))
end
macro "tabk":tactic=>`(tactic|(intro k hk hki;have hz:k=0∨k=1∨k=2∨k=3∨k=4∨k=5∨k=6∨k=7∨k=8∨k=9∨k=10∨k=11:=by omega
                               rcases hz with hz|hz|hz|hz|hz|hz|hz|hz|hz|hz|hz|hz<;>subst hz<;>first|(exact absurd rfl hki)|rfl))
%draw(T:Table):TS:=⟨T.balls,T.room,T.switches,T.lamps,T.coils,T.coils.map λc=>(c.place,c.most),(T.coils.filter λc=>c.hold != 0).map λc=>(c.place,c.hold),T.devices.zipIdx,T.devices.map λd=>d.coil,T.held,T.kicks.map λk=>k.first,T.kicks.map λk=>k.coil⟩
structure Tok(n:Nat)(T:Table):Prop where
 sw:Asc (T.switches.map λs=>s.place)
 la:Asc (T.lamps.map λs=>s.place)
 co:Asc (T.coils.map λs=>s.place)
 ki:Asc (T.kicks.map λk=>k.first)
 nsw:T.switches.length≤n
 nla:T.lamps.length≤n
 nco:T.coils.length≤n
 nde:T.devices.length≤8
 nhe:T.held.length≤8*T.devices.length
 nki:T.kicks.length≤8
 msw:∀s∈T.switches,s.place≤63
 mla:∀s∈T.lamps,s.place≤63
 mco:∀s∈T.coils,s.place≤31
%tHY{α:Type}{P:α→Prop}{xs:#y}{x:α}(a:∀y∈xs,P y)(b:P x):∀y∈xs++[x],P y:=λy hy=>(List.mem_append.mp hy).elim (a y) λz=>by rw[List.mem_singleton] at z;subst z;e b
%tTok.mono{n m:Nat}{T:Table}(K:^o)(h:n≤m):Tok m T:={K with nsw:=Nat.le_trans K.nsw h,nla:=Nat.le_trans K.nla h,nco:=Nat.le_trans K.nco h}
macro "lit":term=>`(term|(by decide+kernel))
%tVz{α:Type}{vl:α→Nat}:∀xs:#y,intsOf (xs.map λx=>nW %1u)=some (xs.map λx=>((vl x:Nat):Int))
 |[]=>rfl
 |x::xs=>by
  h:=Vz (vl:=vl) xs;s[List.map_cons,nW,intsOf] at this ⊢;l;a
%tc7{p:Int}:∀{ns:%1L},ns≠[]→(Kw ns<p↔∀q∈ns,q<p)
 |[],h=>^Uh
 |[x],_=>by simp[Kw]
 |x::y::r,_=>by
  h ih:=c7 (p:=p) (ns:=y::r) (by simp);rw[Kw];rw[List.forall_mem_cons,←ih];split<;>omega;e λz=>by simp at z
%tSim.toPure{α β γ:Type}{r:%8w}{s:%0K}{Q:α→β→%a→Prop}{k:α→γ}{Q':γ→β→%a→Prop}(h:Sim r s Q)(hk:∀a v h',Q a v h'→Q' (k a) v h'):Sim r (s>>= λa=>pure (k a)) Q':=by
 cases s with
 |error F=>e h
 |ok a=>o⟨v,h',rfl,q⟩:=h;e⟨v,h',rfl,hk a v h' q⟩
%dGx(j:Nat)(h:%a):%p:=mth "Line" "finish" &g h (BD %3i h)
%tFY{b:Nat→Prop}{j e:Nat}{h:%a}{pre l:%g}(L:&k):Sim (Gx j h) (closed l) (λ_ v h'=>v=.non∧h'=h∧l=[]):=by
 u Gx;rw[L.mth _ _ U8];e a8 L
section
variable{SP:O}{b:Nat→Prop}{j e n:Nat}{h h':List O}{pre l r:List Word}{w:Word}{T:Table}
%dLx(b:Nat→Prop)(h:%a)(j e:Nat)(r:%g)(h':%a):Prop:=FC j h h'∧∃pre',LA b h' j pre' r e
%tAdv.lx(A:Adv b h j pre r e w h'):Lx b h j e r h':=⟨A.1,_,A.2.1⟩
%tSy{α:Type}{nm:α→Bytes}{vl:α→Nat}{xs:#y}{d hi:Nat}(L:&k)(D:DA h d nm (λx=>nW %1u) xs)(hh:hi<10^10):
 Sim (FR [&g,^z,.int (hi:Nat)] h) (must e "at" l>>= λm=>place e hi (xs.map vl) m) (λa v h'=>v=nW a.1∧a.1≤hi∧(∀q∈xs.map vl,q<a.1)∧Lx b h j e a.2 h'):=by
 xb [FR,Sh,L.mth];r %Q(C5 L (s:="at") lit);m2;h D1:=D.same (D.ne L) s1;xb [L1.mth];u place;r %Q(DN (lo:=0) L1 hh);rintro x v h2 ⟨rfl,_,hx,w2,ew,⟨s2,L2,_⟩,_⟩;h D2:=D1.same (D.ne L) s2
 h t1:ir ^z h2=.ok (!xs.isEmpty) h2:=by
  s[ir];rw[show h2[d]? =_ from D2];c xs<;>rfl
 xb [t1]
 cases xs with
 |nil=>
  xb [List.isEmpty_nil]
  e⟨_,h2,rfl,rfl,hx,λq hq=>by simp at hq,&4V,_,L2⟩
 |cons y ys=>
  have m1:ZF ^z h2=.ok (.int (Kw ((y::ys).map λx=>((vl x:Nat):Int)))) h2:=by
   h:(Ho ^z h2).bind (λkvs=>intsOf (kvs.map (·.2)))=some ((y::ys).map λx=>((vl x:Nat):Int)):=by
    rw[C6 D2,Option.bind_some,List.map_map];e Vz (y::ys)
   s[ZF,this];a
  h ml:=c7 (p:=(x.1.1:Int)) (ns:=(y::ys).map λx=>((vl x:Nat):Int)) (by simp)
  h hall:((y::ys).map vl).all (λp=>decide (p<x.1.1))=decide (Kw ((y::ys).map λx=>((vl x:Nat):Int))<x.1.1):=by
   rw[Bool.eq_iff_iff,List.all_eq_true,decide_eq_true_eq,ml];a6
   ·intro q z hz;u3;rw[decide_eq_true_eq] at this;b
   ·intro q z hz;u3;rw[decide_eq_true_eq];b
  generalize hm:Kw ((y::ys).map λx=>((vl x:Nat):Int))=mx at m1 hall;rw[hall,ew];xb [List.isEmpty_cons,m1,nW];by_cases z:(x.1.1:Int)≤mx
  ·rw[decide_eq_false (by omega:¬mx<x.1.1),EW];xb [decide_eq_true z,L2.mth,L2.Fc];a
  ·rw[decide_eq_true (by omega:mx<x.1.1),DZ];xb [decide_eq_false z];r⟨_,h2,rfl,rfl,hx,λq hq=>?_,&4V,_,L2⟩;rw[decide_eq_true (by omega:mx<x.1.1)] at hall;simpa using &6Phall q
%tCT.ga{X:TS}{f:Str}{x:W}(TG:#Th X)(hf:(UM X.balls X.drained).lookup f=%v):%4pf h=&0a:=C4 (%7Z0) hf
%tAsc.snoc{ps:%r}{p:Nat}(a:Asc ps)(h:∀q∈ps,q<p):Asc (ps++[p]):=by
 u Asc at a ⊢;rw[List.pairwise_append];e⟨a,List.pairwise_singleton _ _,λx hx y hy=>by rw[List.mem_singleton] at hy;subst hy;e h x hx⟩
%tjW:D4 (.tup [.str "drain"])=some (([DRAIN]:#s).map λn=>%5D):=by
 show some [W.str "drain"]=some [%6oDRAIN];rw[show S DRAIN="drain" from lit]
%tfo(K:^o)(hn:n≤16384)(TG:%6ph)(L:&3K):Sim ((F9 %6f h).bind λ_ h1=>^Q) (switchIn e T l) (λT' v h'=>%7z∧%8C):=by
 u switchIn;rw[Vi];t4;h D0:DA h 1 Switch.name (λs=>%0x) T.switches:=%7Z1;h sz:oTup [.str "drain"] h=%9F[.str "drain"]:=rfl;xb [F9,Pz,L.mth,TG.ga (f:="switches") rfl,sz];r %Q(LX L D0 jW (λ_=>rfl));f9;xb [T1.ga (f:="switches") rfl];rw[←bind_assoc];r %Q(Sy (hi:=63) L1 (%9i1) (by decide));k6;xb [L2.mth];r %Q(C5 L2 (s:="close") lit);rintro c v h3 ⟨w3,⟨s3,L3,_⟩,_⟩;f6;xb [L3.mth];r %Q(DN (lo:=1) (hi:=31) L3 (by decide));rintro c2 v h4 ⟨rfl,_,_,w4,_,⟨s4,L4,_⟩,_⟩;h T4:=TGj s4 T3;xb [L4.mth];r %Q(C5 L4 (s:="open") lit);rintro c3 v h5 ⟨w5,⟨s5,L5,_⟩,_⟩;h T5:=TGj s5 T4;xb [L5.mth];r %Q(DN (lo:=1) (hi:=31) L5 (by decide));rintro o v h6 ⟨rfl,_,_,w6,_,⟨s6,L6,_⟩,_⟩;h T6:=TGj s6 T5;o⟨⟨ov,oat⟩,ol⟩:=o;h len:T.switches.length<sizeLine:=Nat.lt_of_le_of_lt K.nsw (%3ahn)
 h done:∀{h7:%a} {pre7 r7:%g} (t:Bool),%6ph7→LA %9B h7 j pre7 r7 e→
  Sim ((OO (.ref 1) (%Za.1) (nW p.1) h7).bind λ_ h8=>Gx j h8) (closed r7>>= λ_=>pure {T with switches:=T.switches++[⟨p.1,c2.1.1,ov,t,a.1⟩]}) (λT' v h'=>%7z∧%8C):=by
  intro h7 pre7 r7 t T7 L7;rw[Ht (x:=(⟨p.1,c2.1.1,ov,t,a.1⟩:Switch)) (T7 1 (by decide)) hc len,A3];r(FY (L7.Ss (by decide))).toPure ?_;h3;r⟨T7.set (by decide) (by tabk) rfl,{K with msw:=HY K.msw hp,sw:=?_,nsw:=?_,nla:=&5U,nco:=&5V}⟩
  ·c4;e K.sw.snoc hps
  ·d7;e Nat.succ_le_succ K.nsw
 xb [L6.mth,L6.more]
 cases ol with
 |nil=>
  xb [List.isEmpty_nil,T6.ga (f:="switches") rfl]
  e done false T6 L6
 |cons w7 r7=>
  xb [List.isEmpty_cons,L6.mth];r %Q(C5 L6 (s:="turned") lit);rintro c3 v h7 ⟨w7,⟨s7,L7,_⟩,_⟩;h T7:=TGj s7 T6;xb [T7.ga (f:="switches") rfl];e done true T7 L7
end
section
variable{SP:O}{b:Nat→Prop}{j e n:Nat}{h h':List O}{pre l r:List Word}{w:Word}{T:Table}
%tnM:D4 (.tup [.str "loop"])=some (([LOOP]:#s).map λn=>%5D):=by
 show some [W.str "loop"]=some [%6oLOOP];rw[show S LOOP="loop" from lit]
%tYA:D4 (.tup [])=some (([]:#s).map λn=>%5D):=rfl
%tmn(K:^o)(hn:n≤16384)(TG:%6ph)(L:&3K):Sim ((Ie %6f h).bind λ_ h1=>^Q) (lampIn e T l) (λT' v h'=>%7z∧%8C):=by
 u lampIn;rw[Vi];t4;h D0:%8Jh 2(λs=>%0x):=%7Z2;h sz:oTup [.str "loop"] h=%9F[.str "loop"]:=rfl;xb [Ie,Ua,L.mth,TG.ga (f:="lamps") rfl,sz];r %Q(LX L D0 nM (λ_=>rfl));f9;xb [T1.ga (f:="lamps") rfl];rw[←bind_assoc];r %Q(Sy (hi:=63) L1 (%9i2) (by decide));k6;h len:T.lamps.length<sizeLine:=Nat.lt_of_le_of_lt K.nla (%3ahn);xb [T2.ga (f:="lamps") rfl];rw[Ht (x:=(⟨p.1,a.1⟩:Lamp)) (T2 2 (by decide)) hc len,A3];r(FY (L2.Ss (by decide))).toPure ?_;h3;r⟨T2.set (by decide) (by tabk) rfl,{K with mla:=HY K.mla hp,la:=?_,nla:=?_,nsw:=&6c,nco:=&5V}⟩
 ·c4;e K.la.snoc hps
 ·d7;e Nat.succ_le_succ K.nla
%ti5{c:Coil}:raw {T with coils:=T.coils++[c]}={raw T with co:=T.coils++[c],mo:=%I.mo++[(c.place,c.most)],ho:=%I.ho++(if c.hold=0 then[] else[(c.place,c.hold)])}:=by
 u raw;s[List.map_append,List.map_cons,List.map_nil,List.filter_append];n;by_cases z:c.hold=0<;>simp[z]
%tmv(K:^o)(hn:n≤16384)(TG:%6ph)(L:&3K):Sim ((Ig %6f h).bind λ_ h1=>^Q) (coilIn e T l) (λT' v h'=>%7z∧%8C):=by
 u coilIn;rw[Mf];f7;h D0:DA h 3 Coil.name (λs=>%0x) T.coils:=%7Z3;h7;xb [Ig,Ud,L.mth,TG.ga (f:="coils") rfl,sz];r %Q(LX L D0 YA (λ_=>rfl));f9;xb [T1.ga (f:="coils") rfl];rw[←bind_assoc];r %Q(Sy (hi:=31) L1 (%9i3) (by decide));k6;xb [L2.mth];r %Q(C5 L2 (s:="most") lit);rintro c v h3 ⟨w3,⟨s3,L3,_⟩,_⟩;f6;xb [L3.mth];r %Q(DN (lo:=1) (hi:=1023) L3 (by decide));rintro m v h4 ⟨rfl,hm1,_,w4,_,⟨s4,L4,_⟩,_⟩;h T4:=TGj s4 T3;h len:T.coils.length<sizeLine:=Nat.lt_of_le_of_lt K.nco (%3ahn)
 h hmo:∀x∈%I.mo,x.1≠p.1:=by
  Y;o⟨c,hc,rfl⟩:=&4x;e Nat.ne_of_lt (hps c.place (List.mem_map_of_mem hc))
 h hho:∀x∈%I.ho,x.1≠p.1:=by
  Y;o⟨c,hc,rfl⟩:=&4x;e Nat.ne_of_lt (hps c.place (List.mem_map_of_mem (List.mem_filter.mp hc).1))
 xb [T4.ga (f:="mosts") rfl,WM (p:=p.1) (v:=m.1.1) (T4 4 (by decide)) hmo (by simpa [raw] using len)];h T5:#T(h4.set 4 (%9w(%I.mo++[(p.1,m.1.1)]))){raw T with mo:=%I.mo++[(p.1,m.1.1)]}:=T4.set (by decide) (by tabk) rfl;h L5:=L4.Ss (i:=4) (o:=%9w(%I.mo++[(p.1,m.1.1)])) (by decide);generalize h4.set 4 (%9w(%I.mo++[(p.1,m.1.1)]))=h5 at T5 L5 ⊢;xb [L5.mth];r %Q(C5 L5 (s:="rest") lit);rintro c3 v h6 ⟨w6,⟨s6,L6,_⟩,_⟩;h T6:=TGj s6 T5;xb [L6.mth];r %Q(DN (lo:=1) (hi:=4095) L6 (by decide));rintro o v h7 ⟨rfl,_,_,w7,_,⟨s7,L7,_⟩,_⟩;h T7:=TGj s7 T6;o⟨⟨ov,oat⟩,ol⟩:=o
 h done:∀{h8:%a} {pre8 r8:%g} (hv:Nat),#Th8 {raw T with mo:=%I.mo++[(p.1,m.1.1)],ho:=%I.ho++(if hv=0 then[] else[(p.1,hv)])}→LA %9B h8 j pre8 r8 e→
  Sim ((OO (.ref 3) (%Za.1) (nW p.1) h8).bind λ_ h8=>Gx j h8) (closed r8>>= λ_=>pure {T with coils:=T.coils++[⟨p.1,m.1.1,ov,hv,a.1⟩]}) (λT' v h'=>%7z∧%8C):=by
  intro h8 pre8 r8 hv T8 L8;rw[Ht (x:=(⟨p.1,m.1.1,ov,hv,a.1⟩:Coil)) (T8 3 (by decide)) hc len,A3];w5;r⟨?_,{K with mco:=HY K.mco hp,co:=?_,nco:=?_,nsw:=&6c,nla:=&5U}⟩
  ·rw[i5];e T8.set (by decide) (by tabk) rfl
  ·c4;e K.co.snoc hps
  ·d7;e Nat.succ_le_succ K.nco
 xb [L7.mth,L7.more]
 cases ol with
 |nil=>
  xb [List.isEmpty_nil,T7.ga (f:="coils") rfl];r done 0 ?_ L7
  simpa using T7
 |cons w8 r8=>
  xb [List.isEmpty_cons,L7.mth];r %Q(C5 L7 (s:="hold") lit);rintro c3 v h8 ⟨w8,⟨s8,L8,_⟩,_⟩;h T8:=TGj s8 T7;xb [L8.mth];r %Q(DN (lo:=1) (hi:=15) L8 (by decide));rintro hd v h9 ⟨rfl,hd1,_,w9,_,⟨s9,L9,_⟩,_⟩;h T9:=TGj s9 T8
  h lho:%I.ho.length<sizeLine:=by
   r Nat.lt_of_le_of_lt ?_ len;s[raw,List.length_map];e List.length_filter_le ..
  xb [T9.ga (f:="holding") rfl,WM (p:=p.1) (v:=hd.1.1) (T9 5 (by decide)) hho lho];h T10:#T(h9.set 5 (%9w(%I.ho++[(p.1,hd.1.1)]))){raw T with mo:=%I.mo++[(p.1,m.1.1)],ho:=%I.ho++[(p.1,hd.1.1)]}:=T9.set (by decide) (by tabk) rfl;h L10:=L9.Ss (i:=5) (o:=%9w(%I.ho++[(p.1,hd.1.1)])) (by decide);generalize h9.set 5 (%9w(%I.ho++[(p.1,hd.1.1)]))=h10 at T10 L10 ⊢;xb [T10.ga (f:="coils") rfl];r done hd.1.1 ?_ L10;d5;e T10
%tZh(L:&k):Sim (Bx %3i h) (%7I[]l) (λa v h'=>v=%Za.1∧isName a.1=true∧∃w,Adv b h j pre a.2 e w h'∧w.w=a.1):=by
 cases l with
 |nil=>e Ja L
 |cons w r=>
  o⟨h',e1,A⟩:=LU L;A;u newName;g2
  cases q:^f with
  |false=>rfl
  |true=>e⟨_,h',rfl,rfl,q,w,A,rfl⟩
%tmr(TG:#Th%5m)(L:&3K):Sim ((GH %6f h).bind λ_ h1=>^Q) (firstIn e l) (λT' v h'=>%7z∧Tok 0 T'):=by
 u firstIn;f7;xb [GH,Uc,L.mth];r %Q(Zh L);rintro a v h1 ⟨rfl,_,w1,⟨s1,L1,_⟩,_⟩;h T1:=TGj s1 TG;xb [L1.mth];r %Q(C5 L1 (s:="balls") lit);z5;xb [L2.mth];r %Q(DN (lo:=1) (hi:=8) L2 (by decide));rintro m v h3 ⟨rfl,_,_,w3,_,⟨s3,L3,_⟩,_⟩;f6;h sa:Fj "balls" (nW m.1.1) #I h3=#z(h3.set 0 (&4j(UM m.1.1 0))):=Eb (T3 0 (by decide)) (by simp[UM]);xb [sa];r(FY (L3.Ss (by decide))).toPure ?_;h3;e⟨T3.set (by decide) (by tabk) rfl,⟨.nil,.nil,.nil,.nil,%L,%L,%L,#q,%L,#q,(λ_ z=>by c z),(λ_ z=>by c z),(λ_ z=>by c z)⟩⟩
end
section
variable{SP:O}{b:Nat→Prop}{j e n:Nat}{h h':List O}{pre l r:List Word}{w:Word}{T:Table}
%dKi(e:Nat)(T:Table):Nat→%r→%g→Except Fault ((List Nat×Bool)×%g)
 |0,had,l=>match l with
  |[]=>.ok ((had,false),[])
  |w::r=>if w.w=DRAIN then .ok ((had,true),r) else %1P
 |k+1,had,l=>match had,l with
  |_::_,[]=>.ok ((had,false),[])
  |[],[]=>%1f3 e
  |_,w::r=>if had≠[]∧w.w=DRAIN then .ok ((had,true),r) else do
   let x←%1d(T.switches.map λ(s:Switch)=>s.name)(w::r)
   let p:=((T.switches[x.1.1]?).map λ(s:Switch)=>s.place).getD 0
   let _←%7s(!(T.held++had).contains p)7
   Ki e T k (had++[p]) x.2
%tAE{α β γ:Type}{s:%0K}{f:α→#wβ}{g:β→#wγ}:(s>>= f)>>= g=s>>= λa=>f a>>= g:=by c s<;>rfl
%tZ6:∀(k:Nat) (had:%r) (l:%g),heldIn e T k had l=(Ki e T k had l>>= λx=>closed x.2>>= λ_=>pure x.1)
 |0,had,[]=>rfl
 |0,had,w::r=>by
  u heldIn Ki;by_cases q:w.w=DRAIN
  ·s[if_pos q];show(closed r).map _=closed r>>= _;c closed r<;>rfl
  ·s[if_neg q];rfl
 |k+1,[],[]=>rfl
 |k+1,_::_,[]=>rfl
 |k+1,had,w::r=>by
  h ih:∀had l,heldIn e T k had l=_:=Z6 k;by_cases q:had≠[]∧w.w=DRAIN
  ·cases had with
   |nil=>e ^Uq.1
   |cons x xs=>
    u heldIn Ki;s[if_pos q];show(closed r).map _=closed r>>= _;c closed r<;>rfl
  ·h e1:heldIn e T (k+1) had (w::r)=(known e (T.switches.map λ(s:Switch)=>s.name) (w::r)>>= λx=>%7s(!(T.held++had).contains (((T.switches[x.1.1]?).map λ(s:Switch)=>s.place).getD 0))7>>= λ_=>heldIn e T k (had++[((T.switches[x.1.1]?).map λ(s:Switch)=>s.place).getD 0]) x.2):=by
    cases had with
    |nil=>e(if_neg q:(if _ then(closed r).map (λ(_:Unit)=>(([]:%r),true)) else _)=_)
    |cons x xs=>e %3V
   h e2:Ki e T (k+1) had (w::r)=(known e (T.switches.map λ(s:Switch)=>s.name) (w::r)>>= λx=>%7s(!(T.held++had).contains (((T.switches[x.1.1]?).map λ(s:Switch)=>s.place).getD 0))7>>= λ_=>Ki e T k (had++[((T.switches[x.1.1]?).map λ(s:Switch)=>s.place).getD 0]) x.2):=by
    cases had with
    |nil=>e(if_neg q:(if _ then(.ok ((([]:%r),true),r):#w((List Nat×Bool)×%g)) else _)=_)
    |cons x xs=>e %3V
   rw[e1,e2];s[AE,ih]
%tcK{X:TS}(hX:X.sw=T.switches)(hl:X.ds.length<sizeLine)(TG:#Th X)(L:&3K):Sim (Ca %6f h) (known e (T.switches.map λ(s:Switch)=>s.name) l>>= λx=>%7s(!X.ds.contains (((T.switches[x.1.1]?).map λ(s:Switch)=>s.place).getD 0))7>>= λ_=>%1M)
 (λx v h'=>#Th' {X with ds:=X.ds++[((T.switches[x.1.1]?).map λ(s:Switch)=>s.place).getD 0]}∧∃w,%4R%9B h' j x.2 e∧l=w::x.2):=by
 h hj:=L.ge
 h D0:DA h 1 Switch.name (λs=>%0x) T.switches:=by
  h:=%7Z1;u DA;l;show some (O.dct (Fp _ _ X.sw))=_;rw[hX];a
 xb [Ca,Ik,L.mth,TG.ga (f:="switches") rfl];r %Q(Dr L D0);rintro a v h1 ⟨x,w1,hx,rfl,ea,⟨s1,L1,_⟩,el,_⟩;h T1:=TG.same hj s1;rw[hx,Option.map_some,Option.getD_some,ea];xb [T1.ga (f:="device_switches") rfl,Lf (%9i8)]
 cases q:X.ds.contains x.place with
 |true=>
  i5;xb [L1.mth,L1.Fc]
  rfl
 |false=>
  rw[Bool.not_false,DZ];xb [T1.ga (f:="device_switches") rfl,SA (p:=x.place) (%9i8) q hl];r⟨_,_,rfl,?_,w1,L1.Ss (by decide),el⟩;rw[hx];e T1.set (by decide) (by tabk) rfl
%toR:S DRAIN="drain":=lit
%tEc{c:FT}{b:FS}{n:Nat}{σ:Sa}{h:%a}:Dv c b (n+1) σ h=(c σ h).st λk h1=>if k=true then(b σ h1).bind (Dv c b n) else %1Vh1:=rfl
%dVA:FT:=fB (%8n1 Bg 1 Ad)
%dXb:FS:=&e(#G(fOr (%0u2(&R8)) (fB (%3X2 AY 1(%C"drain"))))(&e(%1U2 AA 1"drain")(Jo "drained" (oI λi j=>#c) &Z &j)Tv))(AI (#v2 Ca 0 1))(SD 2 (oI λi j=>#c) ^T)
%tsq:Ub=&e(AI (#v2 Ca 0 1))(AU 2 ^T)(Dv VA Xb fuel):=rfl
%dQH(SP:O)(T:Table)(X:TS)(j e:Nat)(x:(List Nat×Bool)×%g)(r:SR):Prop:=∃h' pre',LA %9B h' j pre' x.2 e∧#Th' {X with ds:=T.held++x.1.1,drained:=X.drained+(if x.1.2=true then x.1.1.length else 0)}∧x.1.1.length≤8∧(r=.rt .non h'∨∃σ,r=%1Vh')
%tXa{X:TS}(hX:X.sw=T.switches)(hs:T.held.length+9<sizeLine):∀(k:Nat) (had:%r) (l:%g) (h:%a) (fu:Nat) (pre:%g),had≠[]→had.length+k=8→k<fu→#Th {X with ds:=T.held++had}→&3K→
 Dq (Dv VA Xb fu [%0N,%H,&hhad.length] h) (Ki e T k had l) (QH SP T X j e)
 |k,had,[],h,0,pre,_,_,hf,_,_=>%7Mhf _
 |k,had,_::_,h,0,pre,_,_,hf,_,_=>%7Mhf _
 |k,had,[],h,fu+1,pre,hh,hk,hf,TG,L=>by
  h e1:Ki e T k had []=.ok ((had,false),[]):=by
   cases k with
   |zero=>rfl
   |succ k=>cases had with
    |nil=>e ^Uhh
    |cons x xs=>rfl
  A;rw[Ec];xm [VA,L.mth,L.more,List.isEmpty_nil]
  e⟨h,pre,L,by simpa using TG,by show had.length≤8;omega,.inr %6x⟩
 |0,had,w::r,h,fu+1,pre,hh,hk,hf,TG,L=>by
  rw[Ec];h h8:had.length=8:=%w;h o8:%4Thad.length 8 h=%4O:=by s[nW,oEq,h8];rfl
  xm [VA,Xb,L.mth,L.more,List.isEmpty_cons,o8]
  h e1:Ki e T 0 had (w::r)=(must e "drain" (w::r)>>= λr=>pure ((had,true),r)):=by
   show(if w.w=DRAIN then _ else _)=((if w.w=ascii "drain" then _ else _)>>= _);by_cases q:w.w=DRAIN
   ·rw[if_pos q,if_pos (show w.w=ascii "drain" from q)];a
   ·rw[if_neg q,if_neg (show¬w.w=ascii "drain" from q)];a
  A;r %3q(C5 L (s:="drain") lit);m2;h T1:=TG.same L.ge s1
  h sa:Fj "drained" (.int ((X.drained:Int)+had.length)) #I h1=#z(h1.set 0 (&4j(UM X.balls (X.drained+had.length)))):=by
   q3
  w9
  r⟨_,_,L1.Ss (by decide),T1.set (by decide) (by tabk) rfl,by show had.length≤8;omega,%U⟩
 |k+1,had,w::r,h,fu+1,pre,hh,hk,hf,TG,L=>by
  rw[Ec];h h8:¬((had.length:Int)=8):=%w;h o8:%4Thad.length 8 h=^A:=by s[nW,oEq,decide_eq_false h8];rfl
  xm [VA,Xb,L.mth,L.more,List.isEmpty_cons,o8,Fo L]
  h ds:decide (S w.w=("drain":Str))=decide (w.w=DRAIN):=by
   rw[←oR];s[LK]
  rw[ds];by_cases q:w.w=DRAIN
  ·xm [decide_eq_true q,L.mth]
   h e1:Ki e T (k+1) had (w::r)=(must e "drain" (w::r)>>= λr=>pure ((had,true),r)):=by
    h:must e "drain" (w::r)=.ok r:=%7i;l
    cases had with
    |nil=>e ^Uhh
    |cons x xs=>e if_pos ⟨by simp,q⟩
   A;r %3q(C5 L (s:="drain") lit);m2;h T1:=TG.same L.ge s1
   h sa:Fj "drained" (.int ((X.drained:Int)+had.length)) #I h1=#z(h1.set 0 (&4j(UM X.balls (X.drained+had.length)))):=by
    q3
   w9;r⟨_,_,L1.Ss (by decide),T1.set (by decide) (by tabk) rfl,by show had.length≤8;omega,%U⟩
  ·h e1:Ki e T (k+1) had (w::r)=((known e (T.switches.map λ(s:Switch)=>s.name) (w::r)>>= λx=>%7s(!(T.held++had).contains (((T.switches[x.1.1]?).map λ(s:Switch)=>s.place).getD 0))7>>= λ_=>%1M)>>= λx=>Ki e T k (had++[((T.switches[x.1.1]?).map λ(s:Switch)=>s.place).getD 0]) x.2):=by
    I;h q':¬(had≠[]∧w.w=DRAIN):=λz=>q z.2
    cases had with
    |nil=>e(if_neg q':(if _ then(.ok ((([]:%r),true),r):#w((List Nat×Bool)×%g)) else _)=_)
    |cons x xs=>e if_neg q'
   A;xm [decide_eq_false q];r %3q(cK (X:={X with ds:=T.held++had}) hX (by s[List.length_append];omega) TG L);rintro x v h1 ⟨T1,w1,L1,_⟩;h el:nW had.length=W.int (had.length:Nat):=rfl;xm [nW];h ih:=Xa hX hs k (had++[((T.switches[x.1.1]?).map λ(s:Switch)=>s.place).getD 0]) x.2 h1 fu _ (by simp) (by s[List.length_append,List.length_cons,List.length_nil];omega) %w (by simpa using T1) L1
   h e2:nW (had++[((T.switches[x.1.1]?).map λ(s:Switch)=>s.place).getD 0]).length=.int ((had.length:Int)+1):=by
    s[nW,List.length_append,List.length_cons,List.length_nil];a
   rw[e2] at ih;e ih
%tokE{α β:Type}{a:α}{k:α→#wβ}:((Except.ok a:%0K)>>= k)=k a:=rfl
%tbY{k:Nat}:∀l:%g,Ki e T (k+1) [] l=((known e (T.switches.map λ(s:Switch)=>s.name) l>>= λx=>%7s(!T.held.contains (((T.switches[x.1.1]?).map λ(s:Switch)=>s.place).getD 0))7>>= λ_=>%1M)>>= λx=>Ki e T k [((T.switches[x.1.1]?).map λ(s:Switch)=>s.place).getD 0] x.2)
 |[]=>rfl
 |w::r=>by
  h q:¬(([]:%r)≠[]∧w.w=DRAIN):=λz=>z.1 rfl;I;r(if_neg q:(if _ then(.ok ((([]:%r),true),r):#w((List Nat×Bool)×%g)) else _)=_).trans ?_;s[List.append_nil,List.nil_append];a
%tbx{d:Device}:raw {T with devices:=T.devices++[d]}={raw T with de:=%I.de++[(d,T.devices.length)],dc:=%I.dc++[d.coil],ds:=T.held++d.at_,drained:=T.room+(if d.drain=true then d.at_.length else 0)}:=by
 u raw Table.held Table.room;s[List.map_append,List.map_cons,List.map_nil,List.filter_append,List.flatMap_append,List.flatMap_cons,List.flatMap_nil,List.append_nil,List.foldl_append,List.zipIdx_append];n
 ·cases hd:d.drain<;>simp[List.filter_cons,hd]
 ·i
%tae{α:Type}{r:SR}{s:%0K}{Q:α→SR→Prop}{β:Type}{k':α→#wβ}{Q':β→W→%a→Prop}{f:W→%a→%p}(h:Dq r s Q)(hk:∀a,Q a r→Sim ((fin r).bind f) (k' a) Q'):Sim ((fin r).bind f) (s>>= k') Q':=by
 cases s with
 |error F=>rw[show r=_ from h];rfl
 |ok a=>e hk a h
%tXp{x:Coil}{i:Nat}(K:^o)(hx:T.coils[i]? =%v):((T.coils.map λc=>(c.place,c.most)).find? λy=>y.1==x.place)=some (x.place,x.most):=by
 h hi:=(List.getElem?_eq_some_iff.mp hx).1;h hx':=(List.getElem?_eq_some_iff.mp hx).2;rw[List.find?_eq_some_iff_getElem];r⟨by simp,i,by simpa using hi,by simp[hx'],λk hk=>?_⟩;h:=List.pairwise_iff_getElem.mp K.co k i (by simp;omega) (by simpa using hi) hk;s[List.getElem_map] at this ⊢;rw[hx'] at this;simpa using Nat.ne_of_lt this
%tfq{w0:Word}(K:^o)(hn:n≤16384)(TG:%6ph)(L:LA %9B h j (pre++[w0]) l e):Sim ((E6 %6f h).bind λ_ h1=>^Q) (if 8≤T.devices.length then %1f3 w0.at_ else deviceIn e T l) (λT' v h'=>%7z∧%8C):=by
 f7
 h ol:∀{X:TS} {h1:%a},#Th1 X→BM [.ref 6] h1=^n(nW X.de.length):=by
  intro X h1 t;s[BM,NO,t 6 (by decide),HU,Fp,List.length_map];a
 h hde:%I.de.length=T.devices.length:=by simp[raw]
 h h8:=K.nde;by_cases q8:T.devices.length=8
 ·rw[if_pos %w];h o8:%4T%I.de.length 8 h=%4O:=by s[nW,oEq,hde,q8];rfl
  xb [E6,KI,TG.ga (f:="devices") rfl,ol TG,o8,L.mth,L.Fc];a
 d5
 h o8:%4T%I.de.length 8 h=^A:=by
  s[nW,oEq,hde];j3
 u deviceIn;rw[Mf];h D0:DA h 6 (λx:Device×Nat=>x.1.name) (λx=>#S) T.devices.zipIdx:=%7Z6;h7
 h hnm:(T.devices.map λ(s:Device)=>s.name)=T.devices.zipIdx.map λx=>x.1.name:=by
  h z:=&6i(List.map λs:Device=>s.name)0 T.devices;e9;e z.symm
 rw[hnm];xb [E6,KI,TG.ga (f:="devices") rfl,ol TG,o8,L.mth,sz];r %Q(LX L D0 YA (λ_=>rfl));f9;xb [L1.mth];r %Q(C5 L1 (s:="by") lit);z5;xb [L2.mth,T2.ga (f:="coils") rfl];u coilNamed;I;r %Q(Dr L2 (T2 3 (by decide)));rintro x v h3 ⟨y,w3,hx,rfl,ex,⟨s3,L3,_⟩,_,_⟩;h hx':T.coils[x.1.1]? =%4g:=hx;rw[hx',Option.getD_some,ex];f6
 h hd:(T.devices.any λ(d:Device)=>d.coil==y.place)=%I.dc.contains y.place:=by
  show _=(T.devices.map λd=>d.coil).contains y.place;l6;funext d;d1;e Bool.beq_comm
 rw[hd];xb [T3.ga (f:="device_coils") rfl,Lf (T3 7 (by decide))]
 cases q:%I.dc.contains y.place with
 |true=>
  i5;xb [L3.mth,L3.Fc]
  rfl
 |false=>
  rw[Bool.not_false,DZ,okE];xb [T3.ga (f:="device_coils") rfl,SA (p:=y.place) (T3 7 (by decide)) q (by s[raw,List.length_map];e %3ah8)];h T4:#T(&2o7(KW (%I.dc++[y.place]))){raw T with dc:=%I.dc++[y.place]}:=T3.set (by decide) (by tabk) rfl;h L4:=L3.Ss (i:=7) (o:=.dct (KW (%I.dc++[y.place]))) (by decide);generalize h3.set 7 (.dct (KW (%I.dc++[y.place])))=h4 at T4 L4 ⊢;xb [L4.mth];r %Q(C5 L4 (s:="holds") lit);z0;rw[Z6,bY];s[AE (s:=(known e (T.switches.map λ(s:Switch)=>s.name) c5>>= λx=>%7s(!T.held.contains (((T.switches[x.1.1]?).map λ(s:Switch)=>s.place).getD 0))7>>= λ_=>%1M))];xb [N7,sq];h hh:T.held.length≤64:=by h:=K.nhe;omega
  h hs:T.held.length+9<sizeLine:=%3a(Nat.add_le_add_right hh 9);r %Q(cK (X:={raw T with dc:=%I.dc++[y.place]}) rfl (show T.held.length<sizeLine by omega) T5 L5);rintro x6 v h6 ⟨T6,w6,L6,_⟩;h lp:=Xa (X:={raw T with dc:=%I.dc++[y.place]}) rfl hs 7 [((T.switches[x6.1.1]?).map λ(s:Switch)=>s.place).getD 0] x6.2 h6 fuel _ (by simp) rfl (by decide) T6 L6;s[AE];r ae lp ?_;rintro⟨⟨hs7,dr⟩,r7⟩ ⟨h7,pre7,L7,T7,h7l,hr⟩
  h e7:fin (Dv VA Xb fuel [%0N,%H,%0f1] h6)=#th7:=by
   rcases hr with hr|⟨σ,hr⟩<;>(rw[show Dv VA Xb fuel [some (W.ref 0),some (W.ref j),%0f1] h6=_ from hr];rfl)
  rw[e7,A3];h hlen:%I.de.length<sizeLine:=by rw[hde];e %3ah8
  xb [T7.ga (f:="devices") rfl,ol T7];rw[show nW (List.length %I.de)=nW T.devices.length by rw[hde]];rw[Ht (x:=((⟨y.place,hs7,dr,a.1⟩:Device),T.devices.length)) (vl:=λx:Device×Nat=>#S) (nm:=λx:Device×Nat=>x.1.name) (T7 6 (by decide)) hc hlen,A3];r(FY (L7.Ss (by decide))).toPure ?_;rintro _ v h9 ⟨_,rfl,_⟩;r⟨?_,{K with nde:=?_,nhe:=?_,nsw:=&6c,nla:=&5U,nco:=&5V}⟩
  ·rw[bx];e T7.set (by decide) (by tabk) rfl
  ·d7;b
  ·s[Table.held,List.flatMap_append,List.flatMap_cons,List.flatMap_nil,List.append_nil,List.length_append,List.length_cons,List.length_nil];h:=K.nhe;s[Table.held] at this;simp only at h7l;b
%tiZ{k:Kick}:raw {T with kicks:=T.kicks++[k]}={raw T with kp:=%I.kp++[k.first],kc:=%I.kc++[k.coil]}:=by
 u raw;c4;a
%tmq{w0:Word}(K:^o)(hn:n≤16384)(TG:%6ph)(L:LA %9B h j (pre++[w0]) l e):Sim ((GG %6f h).bind λ_ h1=>^Q) (if 8≤T.kicks.length then %1f3 w0.at_ else kickIn e T l) (λT' v h'=>%7z∧%8C):=by
 f7
 h ol:BM [.ref 9] h=%1OT.kicks.length:=by
  s[BM,NO,%7Z9,HU,raw,List.length_map];a
 h h8:=K.nki;by_cases q8:T.kicks.length=8
 ·rw[if_pos %w];h o8:%4TT.kicks.length 8 h=%4O:=by s[nW,oEq,q8];rfl
  xb [GG,Ol,TG.ga (f:="kick_places") rfl,ol,o8,L.mth,L.Fc];a
 d5
 h o8:%4TT.kicks.length 8 h=^A:=by
  c1
 u kickIn;xb [GG,Ol,TG.ga (f:="kick_places") rfl,ol,o8,L.mth,TG.ga (f:="switches") rfl]
 h hk:∀p:Nat,(T.kicks.all λ(k:Kick)=>decide (k.first<p))=KA (T.kicks.map λk=>k.first) p:=by
  intro p;u KA;rw[List.all_map];a
 s[hk]
 h e1:∀{γ:Type} {k:(Nat×Nat)×%g→#wγ},(known e (T.switches.map λ(s:Switch)=>s.name) l>>= λs=>holds (KA (T.kicks.map λk=>k.first) (((T.switches[s.1.1]?).map λ(s:Switch)=>s.place).getD 0)) 5 s.1.2>>= λ_=>k s)=((known e (T.switches.map λ(s:Switch)=>s.name) l>>= λx=>%7s(KA (T.kicks.map λk=>k.first) (((T.switches[x.1.1]?).map λ(s:Switch)=>s.place).getD 0))5>>= λ_=>%1M)>>= k):=by
  intro γ k;I
 A;h kpl:h[9]? =%V((T.kicks.map λk=>k.first).map nW):=%7Z9;r %Q(Sz L (%7Z1) kpl K.ki);rintro s v h1 ⟨y,w1,hx,rfl,ex,⟨s1,L1,_⟩,_,habove⟩;h hx':T.switches[s.1.1]? =%4g:=hx;h T1:=TGj s1 TG;s[hx',Option.map_some,Option.getD_some,ex];xb [T1.ga (f:="device_switches") rfl,Lf (%9i8)];h hh:%I.ds=T.held:=rfl;rw[hh]
 cases q:T.held.contains y.place with
 |true=>
  i5;xb [L1.mth,L1.Fc]
  rfl
 |false=>
  rw[Bool.not_false,DZ,okE];xb [L1.mth,T1.ga (f:="coils") rfl];u coilNamed;I;r %Q(Dr L1 (%9i3));rintro x v h2 ⟨c,w2,hc,rfl,ec,⟨s2,L2,_⟩,_,_⟩;h hc':T.coils[x.1.1]? =&q:=hc;h T2:=TGj s2 T1;s[hc',Option.getD_some,ec]
  h hd:(T.devices.any λ(d:Device)=>d.coil==c.place)=%I.dc.contains c.place:=by
   show _=(T.devices.map λd=>d.coil).contains c.place;l6;funext d;d1;e Bool.beq_comm
  h hkc:(T.kicks.any λ(d:Kick)=>d.coil==c.place)=%I.kc.contains c.place:=by
   show _=(T.kicks.map λd=>d.coil).contains c.place;l6;funext d;d1;e Bool.beq_comm
  rw[hd,hkc];xb [T2.ga (f:="device_coils") rfl,Lf (T2 7 (by decide))];h bad:Sim ((Res.exc "Fault" [("kind",7),("place",(w2.at_:Int))]).bind λ(_:W) h1=>^Q) (Except.error ⟨7,w2.at_⟩:#wTable) (λT' v h'=>%7z∧%8C):=rfl
  cases q1:%I.dc.contains c.place with
  |true=>
   rw[Bool.not_true,Bool.false_and,EW];xb [L2.mth,L2.Fc]
   e bad
  |false=>
   xb [T2.ga (f:="kick_coils") rfl,Lf (T2 10 (by decide))]
   cases q2:%I.kc.contains c.place with
   |true=>
    rw[Bool.not_true,Bool.and_false,EW];xb [L2.mth,L2.Fc]
    e bad
   |false=>
    rw[Bool.not_false,Bool.and_self,DZ,okE];xb [L2.mth];r %Q(C5 L2 (s:="for") lit);rintro c3 v h3 ⟨w3,⟨s3,L3,_⟩,_⟩;f6;xb [L3.mth];r %Q(DN (lo:=1) (hi:=255) L3 (by decide));rintro t v h4 ⟨rfl,_,_,w4,et,⟨s4,L4,_⟩,_⟩;h T4:=TGj s4 T3;xb [T4.ga (f:="mosts") rfl,Vg (T4 4 (by decide)) (Xp K hc')];xb [nW];rw[et];o⟨⟨tv,tat⟩,tl⟩:=t;by_cases q3:(c.most:Int)<tv
    ·rw[decide_eq_false (show¬tv≤c.most by omega),EW];xb [decide_eq_true q3,L4.mth,L4.Fc];a
    ·rw[decide_eq_true (show tv≤c.most by omega),DZ,okE];xb [decide_eq_false q3,L4.mth,L4.more]
     h done:∀{h7:%a} {pre7 r7:%g} (tl:&3x),%6ph7→LA %9B h7 j pre7 r7 e→
      Sim ((Bq 9 [.int (y.place:Nat)] h7).bind λ_ h8=>(%4p"kick_coils"h8).bind λv8 h8=>(OO v8 (.int (c.place:Nat)) &4f h8).bind λ_ h8=>Gx j h8) (closed r7>>= λ_=>pure {T with kicks:=T.kicks++[⟨y.place,c.place,tv,tl⟩]}) (λT' v h'=>%7z∧%8C):=by
      intro h7 pre7 r7 tl T7 L7
      h oa:Bq 9 [.int (y.place:Nat)] h7=#t(h7.set 9 (.lst ((%I.kp++[y.place]).map nW))):=by
       h hl:(%I.kp.map nW).length<sizeLine:=by s[raw,List.length_map];e %3ah8
       s[Bq,T7 9 (by decide),HU,if_pos hl,List.map_append];a
      h T8:#T(h7.set 9 (.lst ((%I.kp++[y.place]).map nW))){raw T with kp:=%I.kp++[y.place]}:=T7.set (by decide) (by tabk) rfl;h L8:=L7.Ss (i:=9) (o:=.lst ((%I.kp++[y.place]).map nW)) (by decide);rw[oa,A3];generalize h7.set 9 (.lst ((%I.kp++[y.place]).map nW))=h8 at T8 L8 ⊢;h sd:=SA (p:=c.place) (T8 10 (by decide)) q2 (by s[raw,List.length_map];e %3aK.nki);rw[T8.ga (f:="kick_coils") rfl,A3];rw[show W.int (c.place:Nat)=nW c.place from rfl,sd,A3];w5;r⟨?_,{K with ki:=?_,nki:=?_,nsw:=&6c,nla:=&5U,nco:=&5V}⟩
      ·rw[iZ];e T8.set (by decide) (by tabk) rfl
      ·c4;e K.ki.snoc λq hq=>by simpa using &6Phabove q
      ·d7;b
     cases tl with
     |nil=>
      have hl9:h4[9]? =%V(%I.kp.map nW):=T4 9 (by decide);xb [List.isEmpty_nil,T4.ga (f:="kick_places") rfl,fLM,hl9]
      e done none T4 L4
     |cons w8 r8=>
      xb [List.isEmpty_cons,L4.mth];r %Q(C5 L4 (s:="till") lit);z0;xb [L5.mth,T5.ga (f:="switches") rfl];r %Q(Dr L5 (T5 1 (by decide)));rintro u v h6 ⟨z,w6,hz,rfl,eu,⟨s6,L6,_⟩,_,_⟩;h hz':T.switches[u.1.1]? =%9U:=hz;h T6:=TGj s6 T5;s[hz',Option.map_some,Option.getD_some,eu];xb [nW,oEq];by_cases q4:(z.place:Int)=y.place
      ·h:(z.place != y.place)=false:=by simp;omega
       rw[this,EW];xb [decide_eq_true q4,L6.mth,L6.Fc];a
      ·h:(z.place != y.place)=true:=by simp;omega
       rw[this,DZ,okE];h hl9:h6[9]? =%V(%I.kp.map nW):=T6 9 (by decide);xb [decide_eq_false q4,T6.ga (f:="kick_places") rfl,fLM,hl9];e done (some z.place) T6 L6
end
%dbW(c:UInt8):W:=nW c.toNat
%dAu(bs:Bytes):W:=.arg (bs.map bW)
%tDU{bs:Bytes}{h:%a}:BM &1X h=%1Obs.length:=by
 s[BM,Au,NO,List.length_map];a
%dspW(p:Nat×Nat):W:=%0a(nW p.1)(nW p.2)
%dsc:Nat→Nat→Bytes→%5Z×Nat
 |st,_,[]=>([],st)
 |st,p,c::r=>if c=10 then((st,p)::(sc (p+1) (p+1) r).1,(sc (p+1) (p+1) r).2) else sc st (p+1) r
%tbo:∀(r:Bytes) (st p:Nat),(sc st p r).1.length≤r.length
 |[],_,_=>by simp[sc]
 |c::r,st,p=>by
  u sc;B
  ·simpa using bo r (p+1) (p+1)
  ·e Nat.le_succ_of_le (bo r st (p+1))
%dPM:FS:=#G(%0u4(&R10))(Ag (%4jBq(fN oTup (%1g2 3))) (AU 2 (^h(oI λi j=>#c)&J)))
%tBX{h:%a}{o:O}:(h++[o])[h.length]? =%b:=by simp
%tHV{h:%a}{o o':O}:(h++[o]).set h.length o'=h++[o']:=by simp
%tiu{c:UInt8}:decide ((c.toNat:Int)=10)=decide (c=10):=by
 h:(c.toNat:Int)=10↔c=10:=⟨λz=>UInt8.toNat_inj.mp (by show c.toNat=10;omega),λz=>by subst z;rfl⟩;s[this]
%tCv{it:Nat→%a→%9e}{t:TGA}{b:FS}{k i:Nat}{σ σ2:Sa}{h:%a}{x:W}(hi:it i h=&5q)(ht:t x σ=some σ2):Di it t b (k+1) i σ h=(b σ2 h).bind (Di it t b k (i+1)):=by
 s[Di,hi,ht]
%tD5{it:Nat→%a→%9e}{t:TGA}{b:FS}{i:Nat}{σ:Sa}{h:%a}(hi:it i h=%8e):Di it t b 0 i σ h=%1Vh:=by
 s[Di,hi]
%ditE(bs:Bytes):Nat→%a→%9e:=λi h=>(AH %3n h).map λys=>ys[i]?.map λy=>W.tup [&1H,y]
%tjX{bs:Bytes}{i:Nat}{h:%a}:itE bs i h=some (bs[i]?.map λc=>W.tup [&1H,bW c]):=by
 s[itE,Au,AH,Option.map_some,List.getElem?_map,Option.map_map];a
%tgw{bs r:Bytes}{i:Nat}{c:UInt8}(hd:bs.drop i=c::r):bs[i]? =&q∧bs.drop (i+1)=r:=by
 a6
 ·h:=congrArg (λl=>l[0]?) hd;b5
 ·rw[←List.drop_drop,hd];a
%tPL{bs:Bytes}{h:%a}:∀(r:Bytes) (i st:Nat) (acc:%5Z) (x3 x4:&F),bs.drop i=r→acc.length+r.length<sizeLine→
 ∃y3 y4,Di (itE bs) (tg2 3 4) PM r.length i [#k,%P,&hst,x3,x4] (h++[.lst %7b])=
  .nx [#k,%P,some (nW (sc st i r).2),y3,y4] (h++[.lst ((acc++(sc st i r).1).map spW)])
 |[],i,st,acc,x3,x4,hd,_=>by
  h hi:bs.length≤i:=&1o;r⟨x3,x4,?_⟩;rw[List.length_nil,D5 (by rw[jX,&5R];rfl)]
  s[sc,List.append_nil]
 |c::r,i,st,acc,x3,x4,hd,hl=>by
  o⟨hi,hd'⟩:=gw hd;s[List.length_cons] at hl;rw[List.length_cons,Cv (σ2:=[some %3n,%P,&hst,&0z,%5E]) (by rw[jX,hi];rfl) rfl];by_cases q:c=10
  ·h o1:#D(bW c)(.int 10)(h++[.lst %7b])=%5dtrue(h++[.lst %7b]):=by
    s[bW,nW,oEq,iu,%9a];a
   h o2:Bq h.length [%0a(nW st)&1H] (h++[.lst %7b])=#t(h++[.lst ((acc++[(st,i)]).map spW)]):=by
    v2;a
   h o3:oTup [nW st,&1H] (h++[.lst %7b])=.ok (%0a(nW st)&1H) (h++[.lst %7b]):=rfl
   h B:PM [#k,%P,&hst,&0z,%5E] (h++[.lst %7b])=.nx [#k,%P,&h(i+1),&0z,%5E] (h++[.lst ((acc++[(st,i)]).map spW)]):=by
    xr [PM,o1,fLM,BX,o3,o2];a
   rw[B,B7];o⟨y3,y4,ih⟩:=PL (h:=h) r (i+1) (i+1) (acc++[(st,i)]) &0z %5E hd' (by s[List.length_append,List.length_cons,List.length_nil];omega);r⟨y3,y4,?_⟩;rw[ih];s[sc,%7i,List.append_assoc,List.cons_append,List.nil_append]
  ·h o1:#D(bW c)(.int 10)(h++[.lst %7b])=&1m(h++[.lst %7b]):=by
    s[bW,nW,oEq,iu,&1x];a
   h B:PM [#k,%P,&hst,&0z,%5E] (h++[.lst %7b])=.nx [#k,%P,&hst,&0z,%5E] (h++[.lst %7b]):=by
    xr [PM,o1]
   rw[B,B7];o⟨y3,y4,ih⟩:=PL (h:=h) r (i+1) st acc &0z %5E hd' %w;r⟨y3,y4,?_⟩;rw[ih];s[sc,%3V]
%tltW{a b:Nat}{h:%a}:(oI (λi j=>%4w)) (nW a) (nW b) h=&K(decide (a<b)):=by
 s[nW,oI,Int.ofNat_lt]
%dspans(bs:Bytes):%5Z:=(sc 0 0 bs).1++(if(sc 0 0 bs).2<bs.length then[((sc 0 0 bs).2,bs.length)] else[])
%daZ:FS:=#G(&l(oI λi j=>%4w)2%1q)(%4jBq(fN oTup (%4k2%1q)))
%toy:Sj=%B1%1w(AU 2 &W)(&e(Et (iE (#b0)) (tg2 3 4) PM)aZ%5t):=rfl
%tSG{bs:Bytes}{h:%a}(hb:bs.length≤65536):Cs &1X h=%0T(h++[.lst (%5u.map spW)]):=by
 h hb':bs.length<sizeLine:=%3ahb;h o0:El [] h=%0T(h++[.lst []]):=rfl;o⟨y3,y4,e1⟩:=PL (h:=h) bs 0 0 [] none none rfl (by simpa using hb');s[List.nil_append] at e1
 h F:Et (iE (#b0)) (tg2 3 4) PM [#k,%P,some #r,none,none] (h++[.lst []])=.nx [#k,%P,some (nW (sc 0 0 bs).2),y3,y4] (h++[.lst ((sc 0 0 bs).1.map spW)]):=by
  h it:AH %3n (h++[.lst []])=some (bs.map bW):=rfl;xr [Et,iE,it,List.length_map];e e1
 h E:aZ [#k,%P,some (nW (sc 0 0 bs).2),y3,y4] (h++[.lst ((sc 0 0 bs).1.map spW)])=.nx [#k,%P,some (nW (sc 0 0 bs).2),y3,y4] (h++[.lst (%5u.map spW)]):=by
  u aZ;by_cases q:(sc 0 0 bs).2<bs.length
  ·h o3:∀g,oTup [nW (sc 0 0 bs).2,nW bs.length] g=.ok (%0a(nW (sc 0 0 bs).2)(nW bs.length)) g:=λg=>rfl
   h o2:Bq h.length [%0a(nW (sc 0 0 bs).2)(nW bs.length)] (h++[.lst ((sc 0 0 bs).1.map spW)])=#t(h++[.lst (%5u.map spW)]):=by
    h:=bo bs 0 0;s[Bq,BX];rw[if_pos (by s[List.length_map];omega),HV];u spans;rw[if_pos q,List.map_append];a
   h C:fB (Am (oI λi j=>%4w) &j %1q) [#k,%P,some (nW (sc 0 0 bs).2),y3,y4] (h++[.lst ((sc 0 0 bs).1.map spW)])=.ok true (h++[.lst ((sc 0 0 bs).1.map spW)]):=by
    s[fB,Am,fV,fN,Aa,Ad,List.getElem?_cons_zero,List.getElem?_cons_succ,A3,DU,ltW,%9a,asB]
   s[sIf,C,F6,if_true];xr [fLM,BX,DU,o3,o2]
  ·h C:fB (Am (oI λi j=>%4w) &j %1q) [#k,%P,some (nW (sc 0 0 bs).2),y3,y4] (h++[.lst ((sc 0 0 bs).1.map spW)])=.ok false (h++[.lst ((sc 0 0 bs).1.map spW)]):=by
    s[fB,Am,fV,fN,Aa,Ad,List.getElem?_cons_zero,List.getElem?_cons_succ,A3,DU,ltW,&1x,asB]
   s[sIf,C,F6,Bool.false_eq_true,if_false,sNx];u spans;rw[if_neg q,List.append_nil]
 xr [Cs,oy,o0,F,E]
%tsP{c:UInt8}{n:Nat}(hn:n<256):((c.toNat:Int)<(n:Nat))↔c<UInt8.ofNat n:=by
 rw[UInt8.lt_iff_toNat_lt];h:(UInt8.ofNat n).toNat=n:=by simp;omega
 b
%dQk:FS:=#F5(%3x&Z%0l)(&e(%5Q(fOr (&l(oI λi j=>%4w)5%1n) (&l(oI λi j=>^S)5(&R126)))AF 2(#b4))(%5Q(Us (%0u5%1n) (fOr (%0u3%1n) (%0A(^h(oI λi j=>#c)%0l)&j)))AF 2(#b4))(AU 3 (fV 5)))
%toH:KL=#F3%1n(%0P(iR2 (%1g1 2))4 Qk):=rfl
%tnI{bs:Bytes}{i:Nat}{c:UInt8}{h:%a}(hi:bs[i]? =&q):oIx %3n (nW i) h=%s(bW c):=by
 s[oIx,nW,Au,AH,Option.orElse,Mw,List.getElem?_map,hi,Option.map_some]
%tu32{c:UInt8}:((c.toNat:Int)=32)↔c=32:=⟨λz=>UInt8.toNat_inj.mp (by show c.toNat=32;omega),λz=>by subst z;rfl⟩
%tgG{bs:Bytes}{h:%a}{p e:Nat}{c bf:UInt8}{s:W}{x5:&F}(hi:bs[p]? =&q):Qk [#k,some s,%7C,%6Zbf,&hp,x5] h=
 (if c<32∨126<c∨(c=32∧(bf=32∨p+1=e)) then %7r2 p else .nx [#k,some s,%7C,%5E,&hp,%5E] h):=by
 h l1:((c.toNat:Int)<32)↔c<32:=sP (n:=32) (by decide)
 h l2:((126:Int)<c.toNat)↔126<c:=by
  rw[UInt8.lt_iff_toNat_lt];show(126:Int)<c.toNat↔126<c.toNat;b
 h o1:oIx %3n %6L h=%s(bW c):=nI hi;u Qk
 h c1:fOr (&l(oI λi j=>%4w)5%1n) (&l(oI λi j=>^S)5(&R126)) [#k,some s,%7C,%6Zbf,&hp,%5E] h=%s(decide (c<32∨126<c)):=by
  xr [bW,nW];s[l1,l2];by_cases q1:c<32
  ·simp[q1]
  ·simp[q1]
 h c2:Us (%0u5%1n) (fOr (%0u3%1n) (%0A(^h(oI λi j=>#c)%0l)&j)) [#k,some s,%7C,%6Zbf,&hp,%5E] h=%s(decide (c=32∧(bf=32∨p+1=e))):=by
  xr [bW,nW,oEq];s[u32];h l3:((p:Int)+1=e)↔p+1=e:=%w;by_cases q1:c=32
  ·by_cases q2:bf=32
   ·simp[q1,q2]
   ·simp[q1,q2,l3]
  ·simp[q1]
 s[Ag,AU,Am,fV,List.getElem?_cons_zero,List.getElem?_cons_succ,A3,o1,F6,B7,List.set_cons_zero,List.set_cons_succ];by_cases q1:c<32∨126<c
 ·rw[if_pos (by rcases q1 with z|z;e %8x;e %8E)];s[sIf];rw[c1,decide_eq_true q1];xr [];a
 ·s[sIf];rw[c1,decide_eq_false q1];s[F6,Bool.false_eq_true,if_false,sNx,B7,Ag,sIf];rw[c2];by_cases q2:c=32∧(bf=32∨p+1=e)
  ·rw[if_pos (^bq2),decide_eq_true q2];xr [];a
  ·rw[if_neg (by rintro(z|z|z);e q1 %8x;e q1 (.inr z);e q2 z),decide_eq_false q2];xr []
%ditR(s n:Nat):Nat→%a→%9e:=λi _=>some (if i<n then %0f((s:Int)+(i:Int)) else none)
%tQj{bs:Bytes}{h:%a}{s n:Nat}:∀(r:Bytes) (i:Nat) (bf:UInt8) (x4 x5:&F),(bs.drop (s+i)).take r.length=r→i+r.length=n→(r=[]→bf=32→i=0)→
 (∃σ,match badByte (decide (bf=32)) i r with
   |some k=>Di (itR s n) &0b Qk r.length i [#k,%6B,&h(s+n),%6Zbf,x4,x5] h=%7r2(s+k)
   |none=>Di (itR s n) &0b Qk r.length i [#k,%6B,&h(s+n),%6Zbf,x4,x5] h=%1Vh)
 |[],i,bf,x4,x5,_,hn,hz=>by
  r⟨[some %3n,%6B,&h(s+n),%6Zbf,x4,x5],?_⟩
  h e1:badByte (decide (bf=32)) i []=none:=by
   u badByte;by_cases q:bf=32
   ·simp[q,hz rfl q]
   ·simp[q]
  A;v
  rw[List.length_nil,D5 (by s[itR];rw[if_neg (by simp at hn;omega)])]
 |c::r,i,bf,x4,x5,hd,hn,hz=>by
  h hi:bs[s+i]? =&q:=by
   h:=&1vhd;simpa [List.getElem?_take,List.getElem?_drop] using this
  h hd':(bs.drop (s+(i+1))).take r.length=r:=by
   h:=congrArg (λl=>l.drop 1) hd;s[List.length_cons,List.drop_succ_cons,List.drop_zero] at this
   h h2:(bs.drop (s+(i+1))).take r.length=((bs.drop (s+i)).take (r.length+1)).drop 1:=by
    rw[List.drop_take,List.drop_drop,Nat.add_sub_cancel];a
   e h2.trans this
  c7;rw[List.length_cons,Cv (x:=nW (s+i)) (σ2:=[some %3n,%6B,&h(s+n),%6Zbf,&h(s+i),x5]) (by s[itR];rw[if_pos %w];rfl) rfl,gG hi]
  h hend:s+i+1=s+n↔r=[]:=by
   a6
   ·intro z;e List.eq_nil_of_length_eq_zero %w
   ·intro z;y;simp at hn;b
  u badByte;by_cases q1:c<32∨126<c
  ·rw[if_pos q1,if_pos (by rcases q1 with z|z;e %8x;e %8E)];e⟨[],rfl⟩
  ·rw[if_neg q1];by_cases q2:c=32
   ·rw[if_pos q2];by_cases q3:bf=32
    ·rw[if_pos (decide_eq_true q3),if_pos (^b⟨q2,.inl q3⟩)];e⟨[],rfl⟩
    ·rw[if_neg (by simpa using q3)];by_cases q4:r=[]
     ·rw[if_pos (by simp[q4]),if_pos (^b⟨q2,.inr (hend.mpr q4)⟩)];e⟨[],rfl⟩
     ·rw[if_neg (by simpa using q4),if_neg (by rintro(z|z|z);e q1 %8x;e q1 (.inr z);rcases z.2 with z|z;e q3 z;e q4 (hend.mp z)),B7];h ih:=Qj (bs:=bs) (h:=h) (s:=s) (n:=n) r (i+1) c (&h(s+i)) %5E hd' %w (λz=>absurd z q4);rw[decide_eq_true q2] at ih;e ih
   ·rw[if_neg q2,if_neg (by rintro(z|z|z);e q1 %8x;e q1 (.inr z);e q2 z.1),B7];h ih:=Qj (bs:=bs) (h:=h) (s:=s) (n:=n) r (i+1) c (&h(s+i)) %5E hd' %w (λ_ z=>absurd z q2);rw[decide_eq_false q2] at ih;e ih
%tSw{n:Nat}(h:n≤16777216):L2.G.small (n:Int)=true:=by
 u L2.G.small;rw[Bool.and_eq_true,decide_eq_true_eq,decide_eq_true_eq];h h1:((2:Int)^62)=4611686018427387904:=by decide
 rw[h1];b
%tnO{f:FA}{σ:Sa}{h:%a}{k j:Int}(hf:f σ h=%s[.int k,%4f])(hs:(L2.G.small k&&L2.G.small j)=true):iR2 f σ h=%s((j-k).toNat,λi _=>some (if i<(j-k).toNat then %0f(k+(i:Int)) else none)):=by
 u iR2;rw[hf];e if_pos hs
%tnP{f:FA}{σ:Sa}{h:%a}{j:Int}(hf:f σ h=%s[%4f])(hs:L2.G.small j=true):iR1 f σ h=%s(j.toNat,λi _=>some (if i<j.toNat then %0f(0+(i:Int)) else none)):=by
 u iR1;rw[hf];e if_pos hs
%tiM{G:FS}{x y z:&F}{h:%a}:Ag (AU 3 %1n) G [x,y,z,none,none,none] h=G [x,y,z,%6Z32,none,none] h:=rfl
%tWN{a l b:Bytes}{h:%a}(hl:(a++l++b).length≤65536):Ga [&1I,%7Y,%3F] h=(match badByte true 0 l with|some k=>%7r2(a.length+k)|none=>%s.non):=by
 o⟨σ,e1⟩:=Qj (bs:=a++l++b) (h:=h) (s:=a.length) (n:=l.length) l 0 32 none none (by simp) (by simp) (λ_ _=>rfl);rw[decide_eq_true rfl] at e1
 h s1:∀x y:Nat,x+y≤65536→(L2.G.small (x:Int)&&L2.G.small ((x+y:Nat):Int))=true:=by
  intro x y q;rw[Sw %w,Sw %w];a
 h F:Et (iR2 (%1g1 2)) &0b Qk [&0q,&0w,&1p,%6Z32,none,none] h=Di (itR a.length l.length) &0b Qk l.length 0 [&0q,&0w,&1p,%6Z32,none,none] h:=by
  s[List.length_append] at hl;h s2:=s1 a.length l.length %w;h e2:(((a.length+l.length:Nat):Int)-(a.length:Int)).toNat=l.length:=%w;u Et;rw[nO (k:=(a.length:Int)) (j:=((a.length+l.length:Nat):Int)) rfl s2,F6,e2];a
 rw[Ga,Cg];show fin (KL [&0q,&0w,&1p,none,none,none] h)=_;rw[oH,iM,F]
 cases q:badByte true 0 l with
 |some k=>rw[q] at e1;simp only at e1;rw[e1];rfl
 |none=>rw[q] at e1;simp only at e1;rw[e1];rfl
end JU
namespace JU
open PySem PySem.Spec PyProof.Rows L2 L2.G Tilt TL
%dYW:Str:=" !\"#$\n&'()*+,-./0123456789:;<=>?@ABCDEFGHIJKLMNOPQRSTUVWXYZ[\\]^_`abcdefghijklmnopqrstuvwxyz{|}~"
%tlY:∀c:UInt8,(32≤c∧c≤126)→YW.cps.toList[c.toNat-32]? =some (sg c):=&2M
%toA:VT=Bz (fM1 WX (%C"") (fLc (iL &Z) 1 (%3x(%CYW)(Am (oI λi j=>%8b) &M %1n)))):=rfl
%teQ:YW.length≤sizeLine:=by decide+kernel
%tUN:∀l:Bytes,strsOf (l.map λc=>&4Q)=some (l.map λc=>(⟨#[sg c]⟩:Str))
 |[]=>rfl
 |c::l=>by s[List.map_cons,strsOf,UN l,Option.map_some]
%ttlS(w:Bytes):tl %1Y=w.map sg:=Qn w
%tW6:∀l:Bytes,ZX [] (l.map λc=>[sg c])=l.map sg
 |[]=>rfl
 |[c]=>rfl
 |c::d::l=>by
  h ih:=W6 (d::l);show[sg c]++([]++ZX [] ((d::l).map λc=>[sg c]))=_;rw[ih];a
%tbS{l:Bytes}:Txt.join ("":Str) (l.map λc=>(⟨#[sg c]⟩:Str))=S l:=by
 h:tl (Txt.join ("":Str) (l.map λc=>(⟨#[sg c]⟩:Str)))=tl (S l):=by
  rw[join_eq,cF,tlS,List.map_map];e W6 l
 h inj:∀x y:Str,%0D=%0n→x=y:=λx y e=>by
  rw[←pG x,←pG y,e]
 e inj _ _ this
%dCJ:W→W:=λx=>match x with
 |.int i=>.str ⟨#[sg (UInt8.ofNat i.toNat)]⟩
 |_=>.non
%teY{l:Bytes}{h:%a}(hl:l.length≤65536)(hb:∀c∈l,32≤c∧c≤126):Jz [.lst &0R] h=%s(%Zl):=by
 h L:fLc (iL &Z) 1 (%3x(%CYW)(Am (oI λi j=>%8b) &M %1n)) [%V&0R,none] h=%3j(l.map λc=>&5e):=by
  h it:AH (.lst &0R) h=some &0R:=rfl;xr [fLc,iL,it];r(OD (f:=CJ) &0R 0 [] (λk _=>by simp[AH]) (λx hx=>?_) (by simp;e %5Rhl)).trans ?_
  ·o⟨c,hc,rfl⟩:=List.mem_map.mp hx;o⟨h1,h2⟩:=hb c hc;h h1':32≤c.toNat:=UInt8.le_iff_toNat_le.mp h1;h e1:((c.toNat:Int)-32)=((c.toNat-32:Nat):Int):=%w;r⟨⟨h,?_⟩,rfl⟩;xr [bW,nW,e1,oIx,if_pos eQ,Mw,lY c ⟨h1,h2⟩];show Res.ok &4Q h=%s(.str ⟨#[sg (UInt8.ofNat (c.toNat:Int).toNat)]⟩);rw[Int.toNat_natCast];i
  ·n2;congr 2;r List.map_congr_left λc _=>?_;show CJ (bW c)=_;simp[CJ,bW,nW]
 h sm:((l.map λc=>(⟨#[sg c]⟩:Str)).map (·.length)).sum+(l.map λc=>(⟨#[sg c]⟩:Str)).length*("":Str).length≤16777216:=by
  h e1:((l.map λc=>(⟨#[sg c]⟩:Str)).map (·.length))=l.map λ_=>1:=by
   d0;a
  h e2:("":Str).length=0:=by decide+kernel
  rw[e1,e2,Nat.mul_zero]
  h:(l.map λ_=>1).sum=l.length:=by
   clear hl hb L e1
   induction l with
   |nil=>rfl
   |cons c l ih=>simp[ih];omega
  b
 h J:WX ("":Str) (.lst (l.map λc=>&5e)) h=%s(%Zl):=by
  s[WX,AH,Option.bind_some,UN,if_pos sm,bS]
 xr [Jz,oA,L,J]
%tSv:∀(r:Bytes) (w:Bytes) (p:Nat),(r=[]→w≠[])→badByte w.isEmpty w.length r=none∨True→(∀q,r.getLast? =%6w→q≠32)→spl [32] 0 (w.map sg) (r.map sg)=(wordsFrom p w r).map λx=>x.w.map sg
 |[],w,p,hw,_,_=>by
  h:w≠[]:=hw rfl
  simp[Uu,wordsFrom,this]
 |c::r,w,p,hw,hb,hq=>by
  h hq':∀q,r.getLast? =%6w→q≠32:=by
   intro q hz;r hq q ?_
   cases r with
   |nil=>c hz
   |cons d t=>simpa [List.getLast?_cons_cons] using hz
  by_cases h32:c=32
  ·subst h32
   h hr:r≠[]:=by
    X;e hq 32 rfl rfl
   h e1:sg 32=32:=by decide
   rw[List.map_cons,e1,cJ (by simp[pre])];h ih:=Sv r [] (p+1) (λz=>absurd z hr) (.inr trivial) hq';u wordsFrom;rw[if_pos rfl,List.map_cons,←ih];a
  ·h:sg c≠32:=λz=>h32 (bc (z.trans (by decide:(32:Nat)=sg 32)));rw[List.map_cons,Ze (Zv [] _ this)];h ih:=Sv r (w++[c]) (p+1) (λ_=>by simp) (.inr trivial) hq';u wordsFrom;rw[if_neg h32,←ih,List.map_append];a
%tZc{l:Bytes}{p:Nat}(hl:l≠[])(hq:∀q,l.getLast? =%6w→q≠32):Txt.split (S l) (" ":Str)=(wordsFrom p [] l).map λx=>S x.w:=by
 h ey:tl (" ":Str)=[32]:=by decide+kernel
 h k:=eL (S l) (" ":Str) (by rw[ey];simp) (nF (by decide+kernel));h k2:spl [32] 0 [] (l.map sg)=_:=Sv l [] p (λz=>absurd z hl) (.inr trivial) hq;rw[ey,tlS] at k;r Vn (k.trans (k2.trans ?_));d0;r List.map_congr_left λx _=>?_;e(tlS x.w).symm
%dplc:Nat→#s→List Nat
 |_,[]=>[]
 |q,w::ws=>q::plc (q+w.length+1) ws
%tSq:∀(r w:Bytes) (p:Nat),w.length≤p→(wordsFrom p w r).map (λx=>x.at_)=plc (p-w.length) ((wordsFrom p w r).map λx=>x.w)
 |[],w,p,_=>by
  u wordsFrom
  split<;>rfl
 |c::r,w,p,h=>by
  u wordsFrom;B
  ·h ih:=Sq r [] (p+1) #q;s[List.map_cons,plc,ih,List.length_nil,Nat.sub_zero];congr 2;b
  ·h ih:=Sq r (w++[c]) (p+1) (by simp;e h);s[List.length_append,List.length_cons,List.length_nil] at ih;rw[ih];n;b
%tiq{c:UInt8}(h1:¬(c<32∨126<c))(h2:c≠32):32<c∧c≤126:=by
 z2;rw[UInt8.lt_iff_toNat_lt,UInt8.le_iff_toNat_le];h h3:c.toNat≠32:=λz=>h2 (UInt8.toNat_inj.mp z);x5;b
%tig:∀(r w:Bytes) (p k:Nat) (gap:Bool),(gap=true↔w=[])→badByte gap k r=none→(∀c∈w,32<c∧c≤126)→∀x∈wordsFrom p w r,x.w≠[]∧(∀c∈x.w,32<c∧c≤126)∧x.w.length≤w.length+r.length
 |[],w,p,k,gap,hg,hb,hw,x,hx=>by
  u wordsFrom at hx;split at hx
  ·c hx
  ·rename_i hne;rw[List.mem_singleton] at hx;subst hx
   e⟨by simpa using hne,hw,&1C_⟩
 |c::r,w,p,k,gap,hg,hb,hw,x,hx=>by
  u badByte at hb;split at hb
  ·c hb
  ·rename_i h1;u wordsFrom at hx;by_cases h2:c=32
   ·rw[if_pos h2] at hb hx;split at hb
    ·c hb
    ·rename_i h3;split at hb
     ·c hb
     ·rcases List.mem_cons.mp hx with hx|hx
      ·subst hx;e⟨λz=>h3 (hg.mpr z),hw,&1C_⟩
      ·o⟨a1,a2,a3⟩:=ig r [] (p+1) (k+1) true (by simp) hb (λc hc=>by c hc) x hx;e⟨a1,a2,by simp at a3 ⊢;omega⟩
   ·rw[if_neg h2] at hb hx
    o⟨a1,a2,a3⟩:=ig r (w++[c]) (p+1) (k+1) false (by simp) hb (λd hd=>by
     rcases List.mem_append.mp hd with z|z
     ·e hw d z
     ·rw[List.mem_singleton] at z;subst z;e iq h1 h2) x hx
    e⟨a1,a2,by simp at a3 ⊢;omega⟩
%taF:∀(r:Bytes) (gap:Bool) (k:Nat),badByte gap k r=none→(∀c∈r,32≤c∧c≤126)∧∀q,r.getLast? =%6w→q≠32
 |[],_,_,_=>⟨λc hc=>by(c hc),λq hq=>by c hq⟩
 |c::r,gap,k,hb=>by
  u badByte at hb;split at hb
  ·c hb
  ·rename_i h1
   h hc:32≤c∧c≤126:=by
    z2;rw[UInt8.le_iff_toNat_le,UInt8.le_iff_toNat_le];x5;b
   h step:∀gap',badByte gap' (k+1) r=none→(r=[]→c≠32)→(∀d∈c::r,32≤d∧d≤126)∧∀q,(c::r).getLast? =%6w→q≠32:=by
    intro gap' hb' hr;o⟨i1,i2⟩:=aF r gap' (k+1) hb';r⟨λd hd=>?_,λq hq=>?_⟩
    ·rcases List.mem_cons.mp hd with z|z
     ·w;e hc
     ·e i1 d z
    ·cases r with
     |nil=>simp at hq;rw[←hq];e hr rfl
     |cons y t=>e i2 q (by simpa [List.getLast?_cons_cons] using hq)
   by_cases h2:c=32
   ·rw[if_pos h2] at hb;split at hb
    ·c hb
    ·split at hb
     ·c hb
     ·rename_i h4;e step true hb (λz=>absurd (by simp[z]) h4)
   ·rw[if_neg h2] at hb;e step false hb (λ_=>h2)
%dMc:FS:=Ag (%4FBq(fV 5)(#b6)) (SD 6 (oI λi j=>#c) (^h(oI λi j=>#c)(%4c7)))
%tTx{h:%a}{x0 x1 x2 x3:&F}{all:#s}:∀(ws:#s) (i p:Nat) (acc:%r) (x7:&F),all.drop i=ws→(∀w∈ws,w.length≤65536)→acc.length+ws.length<sizeLine→
 ∃p' y7,Di (λi h=>(AH (.lst (all.map λw=>%6ow)) h).map λys=>ys[i]?) (tgN 7) Mc ws.length i [x0,x1,x2,x3,%V(all.map λw=>%0y),%P,&hp,x7] (h++[.lst (acc.map nW)])=
  .nx [x0,x1,x2,x3,%V(all.map λw=>%0y),%P,p',y7] (h++[.lst ((acc++plc p ws).map nW)])
 |[],i,p,acc,x7,hd,_,_=>by
  r⟨some %6L,x7,?_⟩;h hi:all.length≤i:=&1o;rw[List.length_nil,D5 (by simp[AH,&5R])]
  simp[plc]
 |w::ws,i,p,acc,x7,hd,hw,hl=>by
  h hi:all[i]? =some w:=by
   h:=&1vhd;b5
  h hd':all.drop (i+1)=ws:=by rw[←List.drop_drop,hd];rfl
  s[List.length_cons] at hl;rw[List.length_cons,Cv (x:=%0y) (σ2:=[x0,x1,x2,x3,%V(all.map λw=>%0y),%P,&hp,%1K]) (by simp[AH,hi]) rfl]
  h o2:Bq h.length [nW p] (h++[.lst (acc.map nW)])=#t(h++[.lst ((acc++[p]).map nW)]):=by
   v2;a
  h o3:=Rq (w:=w) (h:=h++[.lst ((acc++[p]).map nW)]) (hw w (List.mem_cons_self ..))
  h B:Mc [x0,x1,x2,x3,%V(all.map λw=>%0y),%P,&hp,%1K] (h++[.lst (acc.map nW)])=.nx [x0,x1,x2,x3,%V(all.map λw=>%0y),%P,&h(p+w.length+1),%1K] (h++[.lst ((acc++[p]).map nW)]):=by
   xr [Mc,fLM,BX,o2,o3];xr [nW];congr 4
  rw[B,B7];o⟨p',y7,ih⟩:=Tx (x0:=x0) (x1:=x1) (x2:=x2) (x3:=x3) (h:=h) (all:=all) ws (i+1) (p+w.length+1) (acc++[p]) %1K hd' (λv hv=>hw v (#ahv)) (by s[List.length_append,List.length_cons,List.length_nil];omega);r⟨p',y7,?_⟩;rw[ih];s[plc,List.append_assoc,List.cons_append,List.nil_append]
end JU
namespace JU
open PySem PySem.Spec PyProof.Rows L2 L2.G Tilt
%tdS:Ql=#F2(%6s&M)(%B3(^hoIx&M)(%5Q(%0u3%1q)AF 1(#b3))(&e(AI (%1c3 Ga 0 2 3))(%0O(%0u2&J)(Cu "Line" 4 Ct (Aa (%4UAd) (%1s(%4UAd)3))))(%B4(fM1 Ny (%4r1 Jz(fSl ZD &Z (MS &j) (MS &J))) (%C" "))(AU 5 %1w)(%B6&j(%0P(iL %0l)7 Mc)(Bz (Cu "Line" 4 Ct (%8N4(%1g5 3)))))))):=rfl
%dlnF(ws pl x y:W):%3S:=[("words",ws),("places",pl),("end",x),("taken",y)]
%tPe{ws pl:W}{e:Nat}{h:%a}:Ct [^H,ws,pl,nW e] (h++[.ins "Line" []])=#t(h++[.ins "Line" (%8Kws pl)]):=by
 h s:∀(fs:%3S) (f:Str) (v:W),fs.length<1000→Fj f v ^H (h++[.ins "Line" fs])=#z(h++[.ins "Line" (bz f v fs)]):=by
  intro fs f v hf;rw[Eb BX hf,HV]
 h s1:Fj "words" ws ^H (h++[.ins "Line" []])=#z(h++[.ins "Line" ((%8Kws pl).take 1)]):=s [] _ _ (by simp);h s2:Fj "places" pl ^H (h++[.ins "Line" ((%8Kws pl).take 1)])=#z(h++[.ins "Line" ((%8Kws pl).take 2)]):=s _ _ _ (by simp[lnF]);h s3:Fj "end" (nW e) ^H (h++[.ins "Line" ((%8Kws pl).take 2)])=#z(h++[.ins "Line" ((%8Kws pl).take 3)]):=s _ _ _ (by simp[lnF]);h s4:Fj "taken" #r ^H (h++[.ins "Line" ((%8Kws pl).take 3)])=#z(h++[.ins "Line" (%8Kws pl)]):=s _ _ _ (by simp[lnF]);xr [Ct,MW,s1,s2,s3,s4]
%tRx{a b:Nat}{h:%a}:#D(nW a)(nW b)h=&K(decide (a=b)):=by
 h:((a:Int)=b)↔a=b:=%w;s[nW,oEq,this];a
section
variable{a l b:Bytes}{h:List O}
%tdm{x y:W}:oIx (%0ax y) #r h=&0a:=rfl
%tZY{x y:W}:oIx (%0ax y) %6r h=%sy:=rfl
%tUB{G:FS}:Ag (AU 2 (%6s&M)) (%B3(^hoIx&M)(%5Q(%0u3%1q)AF 1(#b3))G) [&0q,%3J[%7Y,%3F],none,none,none,none,none,none] h=
 (if b=[] then &1u(&2O1) else G [&0q,%3J[%7Y,%3F],&0w,&1p,none,none,none,none] h):=by
 h e1:#D%3F(nW (a++l++b).length)h=&K(decide (b=[])):=by
  rw[Rx];congr 2
  h:(a.length+l.length=(a++l++b).length)↔b=[]:=by
   s[List.length_append];a6
   ·intro z;e List.eq_nil_of_length_eq_zero %w
   ·intro z;y;i
  s[this]
 by_cases q:b=[]
 ·rw[decide_eq_true q] at e1;a5;xr [dm,ZY,DU,e1];a
 ·rw[decide_eq_false q] at e1;R;xr [dm,ZY,DU,e1]
%tVP{G:FS}{f:FF}{x0 x1 x2 x3:W}{x4 x5 x6 x7:&F}{r:%p}(hf:f [x0,x2,x3] h=r):Ag (AI (%1c3 f 0 2 3)) G [%9L,%9M,some x2,some x3,x4,x5,x6,x7] h=r.st λ_ h1=>G [%9L,%9M,some x2,some x3,x4,x5,x6,x7] h1:=by
 xr [hf]
%tXo{G:FS}{x0 x1:W}{s e:Nat}{x4 x5 x6 x7:&F}:Ag (%0O(%0u2&J)(Cu "Line" 4 Ct (Aa (%4UAd) (%1s(%4UAd)3)))) G [%9L,%9M,%6B,%7C,x4,x5,x6,x7] h=
 (if s=e then .rt ^H (h++[.ins "Line" (%8K%M%M)]) else G [%9L,%9M,%6B,%7C,x4,x5,x6,x7] h):=by
 h ol:oLst [] h=%s%M:=rfl;by_cases q:s=e
 ·h e2:#D(nW s)(nW e)h=%4O:=by rw[Rx,%9a]
  a5;xr [e2,Cu,ol,Pe]
 ·h e2:#D(nW s)(nW e)h=^A:=by rw[Rx,&1x]
  R;xr [e2]
%tgC{G:FS}{f:FF}{x0 x1:W}{s e:Nat}{x4 x5 x6 x7:&F}{u v ws:W}{y:Str}(hs:ZD x0 (some (s:Int)) (some (e:Int)) h=%su)(hf:f [u] h=%s(.str y))(hw:Ny y (.str " ") h=%sws):Ag (AU 4 (fM1 Ny (%4r1 f(fSl ZD &Z (MS &j) (MS &J))) (%C" "))) G [%9L,%9M,%6B,%7C,x4,x5,x6,x7] h=G [%9L,%9M,%6B,%7C,some ws,x5,x6,x7] h:=by
 xr [nW,hs,hf,hw]
%tkM{x0 x1:W}{s e:Nat}{ws:%g}{p7:&F×&F}{pls:%r}(F:Et (iL %0l) (tgN 7) Mc [%9L,%9M,%6B,%7C,%V&5C,%P,%6B,none] (h++[.lst []])=.nx [%9L,%9M,%6B,%7C,%V&5C,%P,p7.1,p7.2] (h++[.lst (pls.map nW)])):
 Ag (AU 5 %1w) (%B6&j(%0P(iL %0l)7 Mc)(Bz (Cu "Line" 4 Ct (%8N4(%1g5 3))))) [%9L,%9M,%6B,%7C,%V&5C,none,none,none] h=
  .rt (.ref (h++[O.lst (pls.map nW)]).length) ((h++[O.lst (pls.map nW)])++[.ins "Line" (%8K(.lst &5C)^H)]):=by
 h ol:El [] h=%0T(h++[.lst []]):=rfl;h li:=Pe (ws:=.lst &5C) (pl:=^H) (e:=e) (h:=h++[.lst (pls.map nW)]);xr [ol,F,Cu];rw[li];a
%tnS{x y:W}:BF [x,y] h=fin (Ql [%v,%4g,none,none,none,none,none,none] h):=by
 rw[BF,Cg];a
%taw(hb:b=[]):BF [&1I,%0a%7Y%3F] h=&1u(&2O1):=by
 rw[nS,dS,UB,if_pos hb];a
%toq{k:Nat}(hl:(a++l++b).length≤65536)(hb:b≠[])(hk:badByte true 0 l=%6t):BF [&1I,%0a%7Y%3F] h=%7r2(a.length+k):=by
 h rc:=WN (h:=h) hl;rw[hk] at rc;rw[nS,dS,UB,if_neg hb,VP rc];a
%trX(hl:(a++l++b).length≤65536)(hb:b≠[])(hk:badByte true 0 l=none):∃j h',BF [&1I,%0a%7Y%3F] h=%Dj h'∧(∃g,h'=h++g)∧LA (gE h.length) h' j [] %0p (a.length+l.length):=by
 h rc:=WN (h:=h) hl;rw[hk] at rc;simp only at rc;o⟨hall,hlast⟩:=aF l true 0 hk;h hok:=ig l [] a.length 0 true (by simp) hk (λc hc=>by c hc);s[List.length_append] at hl
 h hBok:∀w∈%0p,Bok w.w:=λw hw=>by
  o⟨x1,x2,x3⟩:=hok w hw;e⟨x1,by simp at x3;omega,x2⟩
 by_cases hn:l=[]
 ·subst hn;r⟨h.length,h++[.ins "Line" (lnF %M %M (nW (a.length+0)) #r)],?_,⟨_,rfl⟩,%L,by simpa [wordsFrom] using hBok,%M,?_,.inl (%4i(by simp[wordsFrom]))⟩
  ·rw[nS,dS,UB,if_neg hb,VP rc,F6,Xo,if_pos (show a.length=a.length+([]:Bytes).length from rfl)];a
  ·rw[BX];a
 ·h hz:l.length≠0:=λz=>hn (List.eq_nil_of_length_eq_zero z)
  h sl:ZD &1I (some (a.length:Int)) (some ((a.length+l.length:Nat):Int)) h=%3j&0R:=by
   h c:ax ((a++l++b).map bW) (some (a.length:Int)) (some ((a.length+l.length:Nat):Int))=&0R:=by
    u ax;rw[HT.Q8,HT.Q8,List.length_map];s[List.length_append];rw[show min a.length (a.length+l.length+b.length)=a.length by omega,show min (a.length+l.length) (a.length+l.length+b.length)=a.length+l.length by omega];rw[List.map_append,List.map_append,List.append_assoc,List.drop_append_of_le_length (by simp),List.drop_of_length_le (by simp),List.nil_append,show a.length+l.length-a.length=&0R.length by simp,List.take_left]
   u ZD;rw[show AH &1I h=some ((a++l++b).map bW) from rfl];s[c]
  h sg':=eY (h:=h) (by omega:l.length≤65536) hall
  h sp:Ny (S l) (.str " ") h=%3j(%0p.map wd):=by
   h c1:((" ":Str).length==0)=false∧(S l).length+2≤sizeLine:=⟨by decide+kernel,by rw[MY];e %5R(by omega:l.length+2≤65538)⟩;s[Ny,if_pos c1,Zc (p:=a.length) hn hlast,List.map_map];a
  h wl:(%0p.map λw=>w.w).length≤l.length+1:=by
   rw[List.length_map]
   h:∀(r w:Bytes) (p:Nat),(wordsFrom p w r).length≤r.length+1:=by
    intro r
    induction r with
    |nil=>intro w p;u wordsFrom;split<;>simp
    |cons c r ih=>
     intro w p;u wordsFrom;B
     ·simpa using ih [] (p+1)
     ·e Nat.le_succ_of_le (ih (w++[c]) (p+1))
   e this l [] a.length
  o⟨p',y7,pl⟩:=Tx (x0:=&0q) (x1:=%3J[%7Y,%3F]) (x2:=&0w) (x3:=&1p) (h:=h) (all:=%0p.map λw=>w.w) (%0p.map λw=>w.w) 0 a.length [] none rfl (λw hw=>by
   o⟨x,hx,rfl⟩:=List.mem_map.mp hw
   e(hBok x hx).2.1) (by
    h:sizeLine=16777216:=rfl
    s[List.length_nil,Nat.zero_add];omega)
  h ew:((%0p.map λw=>w.w).map λw=>%6ow)=%0p.map wd:=by rw[List.map_map];rfl
  rw[ew] at pl;s[List.length_map,List.map_nil,List.nil_append] at pl;h hp:=Sq l [] a.length #q;rw[List.length_nil,Nat.sub_zero] at hp;rw[←hp] at pl
  h F:Et (iL %0l) (tgN 7) Mc [&0q,%3J[%7Y,%3F],&0w,&1p,%V(%0p.map wd),%P,&0w,none] (h++[.lst []])=.nx [&0q,%3J[%7Y,%3F],&0w,&1p,%V(%0p.map wd),%P,p',y7] (h++[.lst ((%0p.map λx=>x.at_).map nW)]):=by
   h it:AH (.lst (%0p.map wd)) (h++[.lst []])=some (%0p.map wd):=rfl;xr [Et,iL,it,List.length_map];e pl
  h E:BF [&1I,%0a%7Y%3F] h=%D(h++[O.lst ((%0p.map λx=>x.at_).map nW)]).length((h++[O.lst ((%0p.map λx=>x.at_).map nW)])++[.ins "Line" (lnF (.lst (%0p.map wd)) ^H %3F #r)]):=by
   rw[nS,dS,UB,if_neg hb,VP rc,F6,Xo,if_neg (show¬a.length=a.length+l.length by omega),gC (v:=.non) sl sg' sp,kM (p7:=(p',y7)) F];a
  r⟨_,_,E,⟨_,List.append_assoc ..⟩,by simp[gE],hBok,^H,?_,.inr ⟨h.length,rfl,%L,by simp,?_⟩⟩
  ·rw[BX];a
  ·rw[List.getElem?_append_left (by simp),BX,List.map_map];a
end
%tWC:∀{r l r':Bytes},upTo r=some (l,r')→r=l++10::r'∧∀st p,sc st p r=((st,p+l.length)::(sc (p+l.length+1) (p+l.length+1) r').1,(sc (p+l.length+1) (p+l.length+1) r').2)
 |[],l,r',h=>by c h
 |c::r,l,r',h=>by
  u Tilt.upTo at h;L
  ·T;c h;subst q;e⟨rfl,λst p=>by simp[sc]⟩
  ·T
   cases hu:upTo r with
   |none=>rw[hu] at h;c h
   |some x=>
    rw[hu] at h;o⟨l1,r1⟩:=x;c h;o⟨e1,e2⟩:=WC hu;r⟨by rw[e1];rfl,λst p=>?_⟩;rw[sc,%3V,e2];i8;rw[show p+1+l1.length=p+(l1.length+1) by omega]
%tWD:∀{r:Bytes},upTo r=none→∀st p,sc st p r=([],st)
 |[],_,st,p=>rfl
 |c::r,h,st,p=>by
  u Tilt.upTo at h;L
  ·c h
  ·T;rw[Option.map_eq_none_iff] at h;rw[sc,%3V,WD h]
%dGD(N p:Nat)(r:Bytes):%5Z:=(sc p p r).1++(if(sc p p r).2<N then[((sc p p r).2,N)] else[])
%dHZ{σ:Type}(f:σ→Line→#wσ)(s:σ)(a l b:Bytes):#wσ:=if b=[] then %1f1(a.length+l.length) else match badByte true 0 l with
 |some i=>%1f2(a.length+i)
 |none=>f s (&2O%0p)
section
variable{σ:Type}{f:σ→Line→Except Fault σ}{bs:Bytes}{B:FS}{n:Nat}{sp:List (Nat×Nat)}{J:Nat→σ→Sa→List O→Prop}
%tMj(hsp:∀p s τ h,J p s τ h→h[n]? =%V(sp.map spW))
 (HB:∀s τ h a l b,bs=a++l++b→J a.length s τ h→Dq (B (τ.set 3 &5w) h) (HZ f s a l b) (λs' r=>∃τ' h',r=.nx τ' h'∧J (a.length+l.length+1) s' τ' h')):
 ∀(k:Nat) (r a:Bytes) (i:Nat) (s:σ) (τ:Sa) (h:%a),bs=a++r→r.length<k→sp.drop i=GD bs.length a.length r→J a.length s τ h→
  Dq (Di (λi h=>(%8Ln h).map λys=>ys[i]?) (tgN 3) B (GD bs.length a.length r).length i τ h) (linesIn f k a.length s r) (λs' r=>∃τ' h',r=.nx τ' h'∧J bs.length s' τ' h')
 |0,r,a,i,s,τ,h,_,hk,_,_=>%7Mhk _
 |k+1,r,a,i,s,τ,h,hb,hk,hd,hJ=>by
  h hn:=hsp _ s τ h hJ
  h it:∀{x:Nat×Nat} {rest:%5Z},sp.drop i=x::rest→(%8Ln h).map (λys=>ys[i]?)=some (some (spW x))∧sp.drop (i+1)=rest:=by
   intro x rest q
   h h0:sp[i]? =%v:=by
    h:=&1vq;b5
   r⟨by s[AH,hn,Option.map_some,List.getElem?_map,h0],by rw[←List.drop_drop,q];rfl⟩
  u linesIn
  cases r with
  |nil=>
   have e1:GD bs.length a.length []=[]:=by
    show([]++if a.length<bs.length then _ else _)=[];rw[if_neg (show¬a.length<bs.length by rw[hb];simp)];a
   rw[e1] at hd ⊢;h hi:sp.length≤i:=&1o;rw[List.length_nil,D5 (by s[AH,hn,Option.map_some,List.getElem?_map,&5R,Option.map_none])];h:bs.length=a.length:=by rw[hb];simp
   r⟨τ,h,rfl,?_⟩
   rw[this];e hJ
  |cons c r0=>
   a0
   cases hu:upTo (c::r0) with
   |none=>
    have e1:GD bs.length a.length (c::r0)=[(a.length,a.length+(c::r0).length)]:=by
     u GD;rw[WD hu];show([]++if a.length<bs.length then _ else _)=_;rw[if_pos (show a.length<bs.length by rw[hb];simp)];rw[hb];i
    rw[e1] at hd ⊢;o⟨i1,_⟩:=it hd;h hb2:=HB s τ h a (c::r0) [] (by rw[hb];simp) hJ;u HZ at hb2;rw[if_pos rfl] at hb2;rw[List.length_cons,List.length_nil,Cv i1 (rfl:tgN 3 _ τ=_),show B _ h=_ from hb2]
    rfl
   |some x=>
    o⟨l,r'⟩:=x;o⟨e1,e2⟩:=WC hu
    h e3:GD bs.length a.length (c::r0)=(a.length,a.length+l.length)::GD bs.length (a.length+l.length+1) r':=by
     u GD;rw[e2];a
    rw[e3] at hd ⊢;o⟨i1,i2⟩:=it hd;rw[e1] at hb;h hb2:=HB s τ h a l (10::r') (by rw[hb];simp) hJ;u HZ at hb2;rw[if_neg (by simp)] at hb2;rw[List.length_cons,Cv i1 (rfl:tgN 3 _ τ=_)];v
    cases hbb:badByte true 0 l with
    |some j=>
     rw[hbb] at hb2;rw[show B _ h=_ from hb2]
     rfl
    |none=>
     rw[hbb] at hb2;simp only at hb2 ⊢
     cases hf:f s (&2O%0p) with
     |error F=>
      rw[hf] at hb2;rw[show B _ h=_ from hb2]
      rfl
     |ok t=>
      rw[hf] at hb2;o⟨τ',h',hr,hJ'⟩:=hb2;rw[hr,B7];h ea:(a++l++[10]).length=a.length+l.length+1:=by simp;omega
      h ih:=Mj hsp HB k r' (a++l++[10]) (i+1) t τ' h' (by rw[hb];simp) (by
       h:=%8Ye1;simp at this hk
       omega) (by rw[ea];e i2) (by rw[ea];e hJ')
      rw[ea] at ih;e ih
%tQb{G:FS}{τ:Sa}{h:%a}{a l b:Bytes}{s:σ}{i t:Nat}{Q:σ→SR→Prop}(hb:bs=a++l++b)(hl:bs.length≤65536)(h0:τ[t]? =some #k)(h3:τ[3]? =some &5w)
 (hG:∀j h',(∃g,h'=h++g)→LA (gE h.length) h' j [] %0p (a.length+l.length)→Dq (G (&1W%H) h') (f s (&2O%0p)) Q):
 Dq (Ag (AU i (#v2 BF t 3)) G τ h) (HZ f s a l b) Q:=by
 h key:Ag (AU i (#v2 BF t 3)) G τ h=(BF [%3n,&2B] h).st λv h1=>G (&1W%W) h1:=by
  h:∀fc:FF,Ag (AU i (#v2 fc t 3)) G τ h=(fc [%3n,&2B] h).st λv h1=>G (&1W%W) h1:=by
   intro fc;s[Ag,AU,Ax,Aa,Ad,fV,h0,h3,A3,LW,B7];a
  e this _
 rw[key];u HZ;subst hb;by_cases q:b=[]
 ·rw[if_pos q,show &2B=.tup [nW a.length,%3F] from rfl,aw q];a
 ·R
  cases hk:badByte true 0 l with
  |some j=>
   rw[show &2B=.tup [nW a.length,%3F] from rfl,oq hl q hk]
   rfl
  |none=>
   o⟨j,h',e1,g,L⟩:=rX (h:=h) hl q hk;rw[show &2B=.tup [nW a.length,%3F] from rfl,e1,F6];e hG j h' g L
end
%dSRT:#s:=SORTS.map ascii
%ttD:[W.str "table",%8Q,&4T,&3u,%8S,&4Z]=SRT.map λs=>%6os:=by
 h:∀i:Fin 6,(["table","switch","lamp","coil","device","kick"]:%u)[i]=(SRT.map S)[i]'(by simp[SRT,SORTS]):=by decide+kernel
 h e:(["table","switch","lamp","coil","device","kick"]:%u)=SRT.map S:=by decide+kernel
 y8;G
%tSu:SRT.Nodup:=by decide+kernel
%dpX(s:&0J):Table:=match s with
 |some y=>y.T
 |none=>noTable
%dlV(s:&0J):W:=match s with
 |some y=>%Z(SRT.getD y.sort [])
 |none=>.non
%dtb:FS:=%B2(%3O3 CB 4(%1s(%5o[&6O,%8Q,&4T,&3u,%8S,&4Z])2))(AI (S6 2 Gm (%6zEI [(.inr "table",&2Z),(.inr "switch",&2S),(.inr "lamp",&3a),(.inr "coil",&3e),(.inr "device",&2V),(.inr "kick",&3i)]) (%1g1 4)))(AI (&E"finish"1 BD 4 Ad))
%tox:Mu=Ag (%5Q(%0A%1q&W)AF 1%5w) (%B1(Cu "Table" 1 EC Ad)(AU 2 %1G)(&e(%0P(iL (#UCs 0))3(#F4(#v2 BF 0 3)tb))(%0W(^p(oI λi j=>%4w)(%3u"drained")(%3u"balls"))8%1q)%5t)):=rfl
%dspO(bs:Bytes):O:=.lst (%5u.map spW)
%dJT(bs:Bytes)(p:Nat)(s:&0J)(τ:Sa)(h:%a):Prop:=(∃x3 x4,τ=[some %3n,%0N,some (lV s),x3,x4])∧CT %7w h (raw (pX s))∧Tok p (pX s)∧(0<p→s≠none)∧(∀y,s=%4g→y.sort<6)
%drdF(i:Nat):FF:=[GH,F9,Ie,Ig,E6,GG].getD i GH
%tmw{i:Nat}(hi:i<6){x0 x3:&F}{j:Nat}{h:%a}:Ag (AI (S6 2 Gm (%6zEI [(.inr "table",&2Z),(.inr "switch",&2S),(.inr "lamp",&3a),(.inr "coil",&3e),(.inr "device",&2V),(.inr "kick",&3i)]) (%1g1 4))) (AI (&E"finish"1 BD 4 Ad)) [x0,%0N,&4k,x3,%H] h=
 (rdF i %6f h).st λ_ h1=>(mth "Line" "finish" &g h1 (BD %3i h1)).st λ_ h2=>.nx [x0,%0N,&4k,x3,%H] h2:=by
 h e1:EI (.kd [(.inr "table",&2Z),(.inr "switch",&2S),(.inr "lamp",&3a),(.inr "coil",&3e),(.inr "device",&2V),(.inr "kick",&3i)]) (%Z&6R) h=%s(.fn ((["read_head","read_switch","read_lamp","read_coil","read_device","read_kick"]:%u).getD i "")):=by
  r2
 h e2:Gm ((["read_head","read_switch","read_lamp","read_coil","read_device","read_kick"]:%u).getD i "")=some (rdF i):=by
  r2
 generalize rdF i=F at e2 ⊢;s[Ag,AI,S6,Am,fC,fV,List.getElem?_cons_zero,List.getElem?_cons_succ,A3,e1,e2,Aa,Ad,List.length_cons,List.length_nil,if_true,LW,Sg,B7,af,Nat.reduceAdd]
%tGF{ss:#s}(hnd:ss.Nodup)(w:Bytes):(∃s,s<ss.length∧(ss.findIdx? λn=>n==w)=some s∧w=ss.getD s []∧∀k,(ss.drop k).contains w=decide (k≤s))∨((ss.findIdx? λn=>n==w)=none∧∀k,(ss.drop k).contains w=false):=by
 cases hf:ss.findIdx? λn=>n==w with
 |none=>
  right;r⟨rfl,λk=>?_⟩;h h:=List.findIdx?_eq_none_iff.mp hf;rw[Bool.eq_false_iff];intro z;h z:=List.mem_of_mem_drop (List.contains_iff_mem.mp z);h:=h w z
  simp at this
 |some s=>
  left;o⟨hs,hw,_⟩:=List.findIdx?_eq_some_iff_getElem.mp hf;h hw:ss[s]=w:=by simpa using hw
  r⟨s,hs,rfl,by rw[List.getD_eq_getElem?_getD,List.getElem?_eq_getElem hs];e hw.symm,λk=>?_⟩;rw[Bool.eq_iff_iff,List.contains_iff_mem,decide_eq_true_eq,List.mem_iff_getElem];a6
  ·rintro⟨i,hi,z⟩;rw[List.getElem_drop] at z;rw[List.length_drop] at hi
   h:k+i=s:=by
    rcases Nat.lt_trichotomy (k+i) s with q|q|q
    ·e absurd (z.trans hw.symm) (List.pairwise_iff_getElem.mp hnd (k+i) s %w hs q)
    ·e q
    ·e absurd (z.trans hw.symm).symm (List.pairwise_iff_getElem.mp hnd s (k+i) hs %w q)
   b
  ·intro hk;r⟨s-k,by rw[List.length_drop];omega,?_⟩;rw[List.getElem_drop];s[show k+(s-k)=s by omega];e hw
%dl8(e:Nat)(T:Table)(w0:Word)(s:Nat)(l:%g):#wTable:=if s=1 then switchIn e T l else if s=2 then lampIn e T l else if s=3 then coilIn e T l else if s=4 then(if 8≤T.devices.length then %1f3 w0.at_ else deviceIn e T l) else(if 8≤T.kicks.length then %1f3 w0.at_ else kickIn e T l)
%dsortI(w:Bytes):Nat:=(SRT.findIdx? λn=>n==w).getD 0
%tiA{w:Bytes}:((SORTS.findIdx? λ(n:String)=>ascii n==w).getD 0)=sortI w:=by
 u sortI SRT;rw[List.findIdx?_map];a
%tZW{x:Line}:lineIn none x=((next x.end_ x.words>>= λw=>if&5i.contains w.1.w=true then pure w else %1f3 w.1.at_)>>= λw=>firstIn x.end_ w.2>>= λT=>%1H0 T):=by
 rw[AE];u lineIn;n;funext w
 h e:&5i.contains w.1.w=decide (w.1.w=ascii "table"):=by
  rw[show &5i=[ascii "table"] from rfl];simp[List.contains_cons]
 t;by_cases q:w.1.w=ascii "table"
 ·s[if_pos q,%9a,if_true];a
 ·s[if_neg q,&1x,Bool.false_eq_true,if_false];a
%tZV{x:Line}{y:Had}(hy:y.sort<6):lineIn %4g x=((next x.end_ x.words>>= λw=>if(SRT.drop (max y.sort 1)).contains w.1.w=true then pure w else %1f3 w.1.at_)>>= λw=>l8 x.end_ y.T w.1 &3t w.2>>= λT=>%1H&3t T):=by
 rw[AE];u lineIn;n;funext w;s[iA];h E8:EIGHT=8:=rfl;rcases GF Su w.1.w with⟨s,hs,hf,hw,hk⟩|⟨hf,hk⟩
 ·h es:&3t=s:=by u sortI;rw[hf];rfl
  rw[es,hk];by_cases q:max y.sort 1≤s
  ·rw[if_pos %9a];show _=(l8 x.end_ y.T w.1 &3t w.2>>= λT=>pure (some (Had.mk &3t T)));rw[es];h hs':s<6:=hs;h hz:s=1∨s=2∨s=3∨s=4∨s=5:=%w;u l8;rcases hz with hz|hz|hz|hz|hz<;>subst hz
   ·l9
   ·l9
   ·l9
   ·by_cases q8:8≤y.T.devices.length
    ·rw[if_pos (^b(.inl (%4iq8)))];s[if_pos q8];a
    ·v6;a
   ·by_cases q8:8≤y.T.kicks.length
    ·rw[if_pos (.inr (^b(%4iq8)))];s[if_pos q8];a
    ·v6;a
  ·rw[if_pos %w,if_neg (by simpa using q)];a
 ·h es:&3t=0:=by u sortI;rw[hf];rfl
  rw[hk,if_pos (.inl es)];a
%tqt{SP:O}{T:Table}{w0:Word}{s n j e:Nat}{h:%a}{pre l:%g}(hs:1≤s)(hs6:s<6)(K:^o)(hn:n≤16384)(TG:%6ph)(L:LA %9B h j (pre++[w0]) l e):Sim ((rdF s %6f h).bind λ_ h1=>^Q) (l8 e T w0 s l) (λT' v h'=>%7z∧%8C):=by
 h hz:s=1∨s=2∨s=3∨s=4∨s=5:=%w;rcases hz with hz|hz|hz|hz|hz<;>subst hz
 ·e fo K hn TG L
 ·e mn K hn TG L
 ·e mv K hn TG L
 ·e fq K hn TG L
 ·e mq K hn TG L
%tZr{i:Nat}(hi:i<6){x0 x3:&F}{j:Nat}{h:%a}{s:#wTable}{Q:Table→W→%a→Prop}{g:Table→&0J}{Q':&0J→SR→Prop}(H:Sim ((rdF i %6f h).bind λ_ h1=>^Q) s Q)
 (hQ:∀T v h2,Q T v h2→Q' (g T) (.nx [x0,%0N,&4k,x3,%H] h2)):
 Dq (Ag (AI (S6 2 Gm (%6zEI [(.inr "table",&2Z),(.inr "switch",&2S),(.inr "lamp",&3a),(.inr "coil",&3e),(.inr "device",&2V),(.inr "kick",&3i)]) (%1g1 4))) (AI (&E"finish"1 BD 4 Ad)) [x0,%0N,&4k,x3,%H] h) (s>>= λT=>pure (g T)) Q':=by
 rw[mw hi]
 h e:((rdF i %6f h).st λ_ h1=>(mth "Line" "finish" &g h1 (BD %3i h1)).st λ_ h2=>SR.nx [x0,%0N,&4k,x3,%H] h2)=((rdF i %6f h).bind λ_ h1=>^Q).st λ_ h2=>SR.nx [x0,%0N,&4k,x3,%H] h2:=by
  rw[Sg];a
 t;e H.st λT v h2 q=>hQ T v h2 q
%tqa(s:&0J):lV s=(match s.map Had.sort with|none=>.non|some i=>%Z&6R):=by c s<;>rfl
%tsQ{x0 x3:&F}{j:Nat}{h:%a}{s:&0J}{G:FS}:Ag (AU 2 (%3O3 CB 4(%1s(%5o[&6O,%8Q,&4T,&3u,%8S,&4Z])2))) G [x0,%0N,some (lV s),x3,%H] h=
 (CB [&g,.ktp (SRT.map λs=>%1r),(match s.map Had.sort with|none=>.non|some i=>%Z&6R)] h).st λv h1=>G [x0,%0N,%W,x3,%H] h1:=by
 rw[←qa,←tD];generalize CB=F;s[Ag,AU,Ax,Aa,Ad,fV,fC,List.getElem?_cons_zero,List.getElem?_cons_succ,A3,LW,B7,List.length_cons,List.length_nil,Nat.reduceAdd,if_true,List.set_cons_zero,List.set_cons_succ]
%tiw{bs:Bytes}(hl:bs.length≤16384)(s:&0J)(τ:Sa)(h:%a)(a l b:Bytes)(hb:bs=a++l++b)(hJ:JT bs a.length s τ h):
 Dq (Ag (AU 4 (#v2 BF 0 3)) tb (τ.set 3 &5w) h) (HZ lineIn s a l b) (λs' r=>∃τ' h',r=.nx τ' h'∧JT bs (a.length+l.length+1) s' τ' h'):=by
 o⟨⟨x3,x4,rfl⟩,TG,K,_,hs⟩:=hJ;h ha:a.length≤16384:=by rw[hb] at hl;simp at hl;omega
 r Qb hb (%5Rhl) rfl rfl ?_;rintro j h' ⟨g,rfl⟩ L;h T0:CT %7w (h++g) (raw (pX s)):=TG.app;h L0:=L.mono λi hi=>Nat.le_trans TG.lt hi;show Dq (tb [#k,%0N,some (lV s),_,%H] (h++g)) _ _;u tb;rw[sQ]
 h ss:=Zg (ss:=SRT) (bf:=s.map Had.sort) L0 (by decide) (λi hi=>by
  cases s with
  |none=>c hi
  |some y=>c hi;e hs y rfl) Su
 cases s with
 |none=>
  rw[ZW];r %3qss;g0;h hc:&5i.contains w.w=true:=hc;rw[show &5i=[ascii "table"] from rfl] at hc
  h hw:w.w=SRT.getD 0 []:=by
   show w.w=ascii "table";simpa using hc
  h T1:=T0.same L0.ge s1;v;rw[hw];r Zr (by decide) (mr T1 L1) ?_;rintro T v h2 ⟨T2,K2⟩;r⟨_,h2,rfl,⟨_,_,rfl⟩,T2,K2.mono #q,λ_=>by simp,λy hy=>?_⟩;c hy
  e Nat.zero_lt_succ _
 |some y=>
  have hy:=hs y rfl;rw[ZV hy];r %3qss;g0;h hc:(SRT.drop (max y.sort 1)).contains w.w=true:=hc;h T1:=T0.same L0.ge s1;v;rcases GF Su w.w with⟨i,hi,hf,hw,hk⟩|⟨hf,hk⟩
  ·h es:sortI w.w=i:=by u sortI;rw[hf];rfl
   h hi:i<6:=hi;rw[hk,decide_eq_true_eq] at hc;rw[es];h H:=qt (w0:=w) (s:=i) %w hi K ha T1 L1;rw[hw];r Zr hi H ?_;rintro T v h2 ⟨T2,K2⟩;r⟨_,h2,rfl,⟨_,_,rfl⟩,T2,K2.mono %w,λ_=>by simp,λy hy=>?_⟩;c hy;e hi
  ·rw[hk] at hc;c hc
%dXR:%a:=[HU %M %5m 0,HU %M %5m 1,HU %M %5m 2,HU %M %5m 3,HU %M %5m 4,HU %M %5m 5,HU %M %5m 6,HU %M %5m 7,HU %M %5m 8,HU %M %5m 9,HU %M %5m 10]
%tUZ:EC [#I] [&4j[]]=#tXR:=by rfl
%taW{σ:Sa}:Cu "Table" 1 EC Ad σ []=%D0 XR:=by
 h:∀F:FF,F [#I] [&4j[]]=#tXR→Cu "Table" 1 F Ad σ []=%D0 XR:=by
  intro F hF;s[Cu,Ad,A3,List.length_nil,Nat.reduceAdd,if_true,List.nil_append,hF]
 e this _ UZ
%tEN{bs:Bytes}(hl:bs.length≤16384):Sim (EZ &1X []) (readTable bs) (λT v h'=>v=#I∧CT %7w h' %I∧Tok bs.length T):=by
 h e0:EZ &1X []=fin (Mu [#k,none,none,none,none] []):=by u EZ;rw[Cg];rfl
 rw[e0,ox];u readTable;by_cases hn:bs=[]
 ·subst hn;h z:%8M([]:Bytes).length []=%5d(decide (([]:Bytes).length=0)) []:=&5j;xr [DU,z,List.length_nil,decide_true];a
 h hp:0<bs.length:=List.length_pos_iff.mpr hn;h z:%8Mbs.length []=%5d(decide (bs.length=0)) []:=&5j;h hb6:bs.length≤65536:=%5Rhl;h rs:Cs &1X XR=%D11(XR++[spO bs]):=SG hb6;h it:%8L11(XR++[spO bs])=some (%5u.map spW):=rfl;generalize hB:(#F4(#v2 BF 0 3)tb)=B
 h TG0:CT %7w (XR++[spO bs]) %5m:=by
  intro i hi;h hz:i=0∨i=1∨i=2∨i=3∨i=4∨i=5∨i=6∨i=7∨i=8∨i=9∨i=10∨i=11:=%w;rcases hz with hz|hz|hz|hz|hz|hz|hz|hz|hz|hz|hz|hz<;>subst hz<;>rfl
 generalize hh:XR++[spO bs]=h0 at rs it TG0
 h LL:=Mj (f:=lineIn) (bs:=bs) (B:=B) (n:=11) (sp:=%5u) (J:=JT bs) (λp s τ h hJ=>hJ.2.1 11 (by decide)) (λs τ h a l b hb hJ=>by rw[←hB];e iw hl s τ h a l b hb hJ) (bs.length+1) bs [] 0 none [some %3n,%0N,some .non,none,none] h0 rfl %0s rfl
  ⟨⟨none,none,rfl⟩,TG0,⟨.nil,.nil,.nil,.nil,%L,%L,%L,#q,%L,#q,(λ_ z=>by c z),(λ_ z=>by c z),(λ_ z=>by c z)⟩,λz=>%4vz _,λy hy=>by c hy⟩
 h LL:Dq (Di (λi h=>(%8L11 h).map λys=>ys[i]?) (tgN 3) B %5u.length 0 [#k,%0N,some .non,none,none] h0) (&3GlineIn 0 none bs) (λs' r=>∃τ' h',r=.nx τ' h'∧JT bs bs.length s' τ' h'):=LL;xr [DU,z,decide_eq_false (Nat.ne_of_gt hp),aW,Et,iL,rs,it,List.length_map]
 cases hL:&3GlineIn 0 none bs with
 |error F=>
  l1
  rfl
 |ok s=>
  rw[hL] at LL;o⟨τ',h',er,⟨x3,x4,rfl⟩,TG,K,hs,_⟩:=LL;rw[er]
  cases s with
  |none=>e ^U(hs hp)
  |some y=>
   have g1:%4p"drained"h'=^O(nW y.T.room):=TG.ga rfl;h g2:%4p"balls"h'=^O(nW y.T.balls):=TG.ga rfl;xr [g1,g2,nW];by_cases q:y.T.balls≤y.T.room
   ·h q2:¬(y.T.room:Int)<y.T.balls:=%w;s[if_pos q];xr [decide_eq_false q2];e⟨_,h',rfl,rfl,TG,K⟩
   ·h q2:(y.T.room:Int)<y.T.balls:=%w;s[if_neg q];xr [decide_eq_true q2,DU,nW];a
%tpT:∀(r w:Bytes) (p:Nat),(wordsFrom p w r).length≤r.length+1:=by
 intro r
 induction r with
 |nil=>intro w p;u wordsFrom;split<;>simp
 |cons c r ih=>
  intro w p;u wordsFrom;B
  ·i8;e Nat.succ_le_succ (ih _ _)
  ·i8;e Nat.le_succ_of_le (ih _ _)
%dFh(n lp st:Nat):%3S:=[("shows",.ref (n+1)),("lamps",.ref lp),("steps",nW st)]
%dDm(b:Book):Nat:=(b.getLast?.map λs=>s.steps.length).getD 0
%dNP(b:Book):%r:=(b.getLast?.map λs=>s.speaks).getD []
%dJi(b:Book):&u:=Fp (λx:Show×Nat=>x.1.name) (λx=>#S) b.zipIdx
structure BG(H:%a)(SP:O)(lp:Nat)(h:%a)(b:Book):Prop where
 lo:∀i,i<H.length→h[i]? =H[i]?
 bk:h[H.length]? =some (&0V(%6Ulp%4q))
 la:h[lp]? =%V((NP b).map nW)
 lq:H.length+2≤lp∧lp≠H.length+3
 sh:h[H.length+1]? =#g(Ji b)
 sp:h[H.length+3]? =some SP
 nb:b.length≤32
 ns:%4q≤16
section
variable{H:List O}{SP:O}{lp:Nat}{h h':List O}{b:Book}{R:Nat→Prop}{j e:Nat}{pre l r:List Word}{w:Word}{T:Table}
%tBG.frame(B:BG H SP lp h b)(k:∀i o,(i<H.length+4∨i=lp)→h[i]? =%b→h'[i]? =%b):BG H SP lp h' b where
 lo i hi:=by
  h e:H[i]? =some H[i]:=%3D;t;e k i _ &1z ((B.lo i hi).trans e)
 bk:=k _ _ &1z B.bk
 la:=k _ _ %1j B.la
 lq:=B.lq
 sh:=k _ _ &1z B.sh
 sp:=k _ _ &1z B.sp
 nb:=B.nb
 ns:=B.ns
%tBG.same(B:BG H SP lp h b)(L:%8aR)(hR:∀i,R i→H.length+4≤i)(s:FC j h h'):BG H SP lp h' b:=B.frame λi o hi q=>by
 h:i≠j:=by
  X;rcases hi with z|z
  ·h:=hR _ L.ge;b
  ·y;e8;rw[B.la] at hj;c hj
 rw[s.2 i this];e q
%tLA.app{g:%a}(L:%8aR):LA R (h++g) j pre l e:=L.low λi o _ q=>by rw[List.getElem?_append_left (Bo q)];e q
%tLA.FZ{i:Nat}{o:O}(L:%8aR)(hi:¬R i):LA R (h.set i o) j pre l e:=L.low λk o hk q=>by rw[Ac (λz:i=k=>hi (by rw[z];e hk))];e q
%tBG.mth(B:BG H SP lp h b)(k:%p):mth "Book" "wants_step" #H h k=k:=by
 s[JU.mth,B.bk];e if_pos ⟨trivial,rfl⟩
%tBG.ga{f:Str}{x:W}(B:BG H SP lp h b)(hf:(%6Ulp%4q).lookup f=%v):BN f #H h=&0a:=C4 B.bk hf
%tBG.len(B:BG H SP lp h b):BM [%3I] h=%1Ob.length:=by
 s[BM,NO,B.sh,Ji,Fp,List.length_map,List.length_zipIdx];a
%tS2{b:Book}(h:b.getLast? =none):b=[]:=List.getLast?_eq_none_iff.mp h
%tSE(B:BG H SP lp h b):CQ [#H] h=&K(decide (0<b.length)&&decide (Dm b=0)):=by
 h g1:BN "shows" #H h=&3oh:=B.ga rfl;h g2:BN "steps" #H h=%1O%4q:=B.ga rfl;h z:%8M%4q h=&K(decide (Dm b=0)):=&5j;xr [CQ,Kq,g1,B.len,nW];by_cases q:0<b.length
 ·h q2:(0:Int)<(b.length:Nat):=%w;h z:#D(.int ((Dm b:Nat):Int))#r h=&K(decide (Dm b=0)):=z;xr [decide_eq_true q,decide_eq_true q2,g2,nW,z,Bool.true_and]
 ·h q2:¬(0:Int)<(b.length:Nat):=%w;xr [decide_eq_false q,decide_eq_false q2,Bool.false_and]
%tW3{ns:#s}{e:Nat}{w:Word}{r:%g}:%1dns(w::r)=(known 0 ns [w]>>= λx=>pure (x.1,r)):=by
 show(if ^f=false then _ else _)=((if ^f=false then _ else _)>>= _);by_cases q:^f=false
 ·rw[if_pos q,%7i];a
 ·rw[if_neg q,%3V];c ns.findIdx? λn=>n==w.w<;>rfl
%tMl{ok:Nat→Bool}{had:%r}{w:Word}{r r':%g}{e:Nat}:lampsIn T ok had (w::r)=((known e (T.lamps.map Lamp.name) (w::r')>>= λx=>%7s(KA had (((T.lamps[x.1.1]?).map Lamp.place).getD 0))5>>= λ_=>%1M)>>= λx=>%7s(ok (((T.lamps[x.1.1]?).map Lamp.place).getD 0))6>>= λ_=>lampsIn T ok (had++[((T.lamps[x.1.1]?).map Lamp.place).getD 0]) r):=by
 rw[W3];I;a
%dES(y:Word):Bool:=y.w != LOOP
%diG(e:Nat)(T:Table)(b:Book)(l:%g):#wBook:=do
 let n←SU e [] (b.map λ(s:Show)=>s.name) l
 let m←must e "on" n.2
 let x←%1d(T.lamps.map Lamp.name)m
 let p←lampsIn T (λ_=>true) [((T.lamps[x.1.1]?).map Lamp.place).getD 0] (x.2.takeWhile ES)
 let _←closed ((x.2.dropWhile ES).drop 1)
 return b++[⟨n.1,p,decide ((x.2.takeWhile ES).length<x.2.length),[]⟩]
%tdH{α:Type}{p:α→Bool}:∀l:#y,l.drop (l.takeWhile p).length=l.dropWhile p
 |[]=>rfl
 |x::l=>by
  by_cases q:p x=true
  ·s[List.takeWhile_cons,%7i,List.dropWhile_cons,List.length_cons,List.drop_succ_cons];e dH l
  ·s[List.takeWhile_cons,%3V,List.dropWhile_cons,List.length_nil,List.drop_zero]
%teS{e:Nat}{T:Table}{b:Book}{l:%g}:showIn e T b l=iG e T b l:=by
 u showIn iG;rw[Mf];n;funext n;n;funext m
 cases m with
 |nil=>rfl
 |cons w r=>
  rw[W3];I;show(lampsIn T _ [] (w::r.takeWhile ES)>>= _)=_;rw[Ml (e:=0) (r':=[])];I;show _=(known 0 (T.lamps.map Lamp.name) [w]>>= λx=>_);n;funext x;rw[←dH,List.drop_drop];a
end
section
variable{H:List O}{SP:O}{lp:Nat}{h h':List O}{b:Book}{R:Nat→Prop}{j e k:Nat}{pre l r:List Word}{w:Word}{T:Table}
%tlu:S LOOP="loop":=lit
%tapp_list{ps:%r}{p:Nat}(hk:h[k]? =%V%7f)(hl:ps.length<16777216):Bq k [nW p] h=#t(h.set k (.lst ((ps++[p]).map nW))):=by
 h:%7f.length<sizeLine:=by rw[List.length_map];e hl
 s[Bq,hk,&4U,List.map_append];a
%tBG.tE{o:O}(B:BG H SP lp h b)(hk4:H.length+4≤k)(hkl:k≠lp):BG H SP lp (h.set k o) b:=B.frame λi o hi q=>by
 rw[Ac (by rcases hi with z|z<;>omega)];e q
%tBG.app{g:%a}(B:BG H SP lp h b):BG H SP lp (h++g) b:=B.frame λi o _ q=>by rw[List.getElem?_append_left (Bo q)];e q
%tBG.lamps(B:BG H SP lp h b)(hD:%8JH 2(λs=>%0x)):%8Jh 2(λs=>%0x):=(B.lo 2 (Bo hD)).trans hD
%dWL:FT:=Us (fB (%8n1 Bg 2 Ad)) (VI (fB (%3X2 AY 2%9m)))
%dcM:FS:=&0oBq%0l(&E"take_above"3 Cm 2(%1g1 4))
%tWK{x0 x3:&F}(hR:∀i,R i→H.length+4≤i)(hk:¬R k)(hkl:k≠lp)(hk4:H.length+4≤k)(hD:%8JH 2(λs=>%0x)):∀(l:%g) (had:%r) (h:%a) (pre:%g) (fu:Nat),Asc had→l.length<fu→had.length+l.length≤70000→BG H SP lp h b→h[k]? =%V(had.map nW)→%8aR→
 Dq (Dv WL cM fu [x0,%e2,%H,x3,%ek] h) (lampsIn T (λ_=>true) had (l.takeWhile ES)) (λp r=>∃h' pre',r=.nx [x0,%e2,%H,x3,%ek] h'∧BG H SP lp h' b∧h'[k]? =%V(p.map nW)∧LA R h' j pre' (l.dropWhile ES) e)
 |l,had,h,pre,0,_,hf,_,_,_,_=>%7Mhf _
 |[],had,h,pre,fu+1,ha,hf,hn,B,hh,L=>by
  rw[Ec];xm [WL,L.mth,L.more,List.isEmpty_nil]
  e⟨h,pre,rfl,B,hh,L⟩
 |w::r,had,h,pre,fu+1,ha,hf,hn,B,hh,L=>by
  rw[Ec];generalize hW:Dv WL cM fu=Wh;h ds:decide (S w.w=("loop":Str))=decide (w.w=LOOP):=by rw[←lu];s[LK]
  by_cases q:w.w=LOOP
  ·xm [WL,L.mth,L.more,List.isEmpty_cons,Fo L,ds,%9a];h nl:ES w=false:=by simp[ES,q]
   rw[List.takeWhile_cons,nl,List.dropWhile_cons,nl];e⟨h,pre,rfl,B,hh,L⟩
  ·xm [WL,L.mth,L.more,List.isEmpty_cons,Fo L,ds,&1x];h nl:ES w=true:=by simp[ES,q]
   rw[List.takeWhile_cons,nl,List.dropWhile_cons,nl,%9l,%9l,Ml (e:=e) (r':=r)];xm [cM,fLM,hh,L.mth];s0;o⟨⟨ai,aat⟩,al⟩:=a;c el;h B1:=B.same L hR s1;r4;w4;h hx':T.lamps[ai]? =%v:=hx;s[hx',Option.map_some,Option.getD_some,DZ,okE];xm [oa];rw[←hW];e WK hR hk hkl hk4 hD al (had++[x.place]) _ _ fu (ha.snoc λq hq=>by simpa using &6Phab q) %w (by simp;omega) (B1.tE hk4 hkl) (Aq hh1) (L1.FZ hk)
end
%tDq.pO{α β:Type}{r:SR}{s:%0K}{Q:α→SR→Prop}{k:Sa→%a→SR}{k':α→#wβ}{Q':β→W→%a→Prop}{f:W→%a→%p}(h:Dq r s Q)(hk:∀a,Q a r→Sim ((fin %8j).bind f) (k' a) Q'):Sim ((fin %8j).bind f) (s>>= k') Q':=by
 cases s with
 |error F=>rw[show r=_ from h];rfl
 |ok a=>e hk a h
%tOb{α:Type}{p:α→Bool}:∀{l:#y} {w:α} {r:#y},l.dropWhile p=w::r→p w=false
 |[],_,_,h=>by c h
 |x::l,w,r,h=>by
  by_cases q:p x=true
  ·rw[List.dropWhile_cons,%7i] at h;e Ob h
  ·rw[List.dropWhile_cons,%3V] at h;c h;e Bool.eq_false_iff.mpr q
section
variable{H:List O}{SP:O}{lp:Nat}{h h':List O}{b:Book}{R:Nat→Prop}{j e k:Nat}{pre l r:List Word}{w:Word}{T:Table}
%dpq:FS:=Ag (#G(fB (%3X2 AY 2%9m))(AI (&5G2 AA 2%9m))) (&e(GJ &0i &J %8m)&5s&4a)
%tcx:Oi=Ag (#Y(fOr (%0A%8m%1n) (fB (Ao "Book" "wants_step" 1 CQ &Z Ad)))3 1 Av 2 Ad) (%B3(%9J3 By 2(%1R&0i&4h))(%1U2 AA 2"on")(%B4(%1AEl(&E"take_known"2 Al 2(#b1)))(Dv WL cM fuel)pq)):=rfl
%dbQ(b:Book):Bool:=match b.getLast? with
 |some s=>decide (1≤s.steps.length)
 |none=>true
%tfY:bQ b=!(decide (0<b.length)&&decide (Dm b=0)):=by
 u bQ Dm
 cases q:b.getLast? with
 |none=>rw[S2 q];rfl
 |some s=>
  have:b≠[]:=by intro z;rw[z] at q;c q
  q5;by_cases z:s.steps.length=0
  ·rw[decide_eq_true z,&0f];a
  ·rw[decide_eq_false z,&0g];a
%tPQ{s:Show}:Fp (λx:Show×Nat=>x.1.name) (λx=>#S) (b.zipIdx++[(s,b.length)])=Ji (b++[s]):=by
 u Ji;rw[List.zipIdx_append];i
%ta9:(b.map λ(s:Show)=>s.name)=b.zipIdx.map λx=>x.1.name:=by
 h z:=&6i(List.map λs:Show=>s.name)0 b;e9;e z.symm
%tmi{w0:Word}(hR:∀i,R i→H.length+4≤i∧i<h.length)(hD:%8JH 2(λs=>%0x))(hl:l.length≤65537)(B:BG H SP lp h b)(L:LA R h j (pre++[w0]) l e):
 Sim ((Ic [#H,%7y,&g] h).bind λ_ h1=>^Q) (holds (bQ b&&decide (b.length<SHOWS)) 3 w0.at_>>= λ_=>showIn e T b l) (λb' v h'=>∃lp',BG H SP lp' h' b'):=by
 p2;rw[fY,show SHOWS=32 from rfl];h nb:=B.nb;h en:Ic=BY 5 Oi:=rfl;by_cases q:b.length=32
 ·h o32:%4Tb.length 32 h=%4O:=by s[nW,oEq,q];rfl
  rw[decide_eq_false (show¬b.length<32 by omega),Bool.and_false,EW];xb [en,cx,g1 B,B.len,o32,L.mth,L.Fc];a
 h o32:%4Tb.length 32 h=^A:=by
  c1
 rw[decide_eq_true (show b.length<32 by omega),Bool.and_true]
 cases qw:(decide (0<b.length)&&decide (Dm b=0)) with
 |true=>
  i5;xb [en,cx,g1 B,B.len,o32,B.mth,SE B,qw,L.mth,L.Fc]
  rfl
 |false=>
  rw[Bool.not_false,DZ,okE,eS];u iG;rw[a9];h7;xb [en,cx,g1 B,B.len,o32,B.mth,SE B,qw,L.mth,sz];r %Q(LX (xs:=b.zipIdx) (nm:=λx:Show×Nat=>x.1.name) (vl:=λx=>#S) L B.sh YA (λ_=>rfl));rintro⟨nm,nl⟩ v h1 ⟨rfl,w1,⟨s1,L1,_⟩,_,el1,hc,_,_⟩;h B1:=B.same L hR4 s1;xb [L1.mth];r %Q(C5 L1 (s:="on") lit);rintro m v h2 ⟨w2,⟨s2,L2,_⟩,el2⟩;h B2:=B1.same L1 hR4 s2;xb [L2.mth];r %Q(Dr L2 (B2.lamps hD));rintro⟨⟨xi,xat⟩,xl⟩ v h3 ⟨x,w3,hx,rfl,ea,⟨s3,L3,_⟩,el3,_⟩;h B3:=B2.same L2 hR4 s3;h hx':T.lamps[xi]? =%v:=hx;s[hx',Option.map_some,Option.getD_some];h om:El &4W h3=%Dh3.length(h3++[.lst (([x.place]:%r).map nW)]):=rfl;h hlen:h3.length=h.length:=s3.1.trans (s2.1.trans s1.1);h hk:¬R h3.length:=λz=>by h:=(hR _ z).2;omega
  h hlp:lp<h3.length:=Bo B3.la;h h4n:H.length+4≤h3.length:=Bo B3.sp
  h hxl:xl.length≤65537:=by
   h e1:l.length=nl.length+1:=by rw[el1];rfl
   h e2:nl.length=m.length+1:=by
    h:nl=w2::m:=el2;l;a
   h e3:m.length=xl.length+1:=by rw[el3];rfl
   b
  xb [om];h LL:=WK (x0:=%4E) (x3:=%3Enm) (k:=h3.length) hR4 hk (Nat.ne_of_gt hlp) h4n hD xl [x.place] (h3++[.lst (([x.place]:%r).map nW)]) _ fuel (List.pairwise_singleton _ _) (%3ahxl) (by simp;omega) B3.app BX L3.app;r Dq.pO LL ?_;rintro p ⟨h5,pre5,er,B5,hk5,L5⟩;rw[er,B7]
  h done:∀{h6:%a} {pre6 r6:%g},BG H SP lp h6 b→h6[h3.length]? =%V(p.map nW)→LA R h6 j pre6 r6 e→
   Sim ((fin (Ag (GJ &0i &J %8m) (Ag &5s &4a) [%4E,%e2,%H,%3Enm,%eh3.length] h6)).bind λ_ h1=>^Q)
    (closed r6>>= λ_=>pure (b++[⟨nm,p,decide ((xl.takeWhile ES).length<xl.length),[]⟩])) (λb' v h'=>∃lp',BG H SP lp' h' b'):=by
   intro h6 pre6 r6 B6 hk6 L6;h sd:=Ht (x:=((⟨nm,p,decide ((xl.takeWhile ES).length<xl.length),[]⟩:Show),b.length)) (nm:=λx:Show×Nat=>x.1.name) (vl:=λx=>#S) B6.sh hc (by rw[List.length_zipIdx];e %3anb);rw[PQ] at sd;generalize hb':b++[(⟨nm,p,decide ((xl.takeWhile ES).length<xl.length),[]⟩:Show)]=b' at sd ⊢;h b6:(&4F(.dct (Ji b')))[H.length]? =some (&0V(%6Ulp%4q)):=by rw[Ac %w];e B6.bk
   h sa1:Fj "lamps" (.ref h3.length) #H (&4F(.dct (Ji b')))=#z((&4F(.dct (Ji b'))).set H.length (&0V(%6Uh3.length%4q))):=Eb b6 (by simp[Fh]);h b7:=Aq (o':=O.ins "Book" (%6Uh3.length%4q)) b6;h sa2:Fj "steps" #r #H ((&4F(.dct (Ji b'))).set H.length (&0V(%6Uh3.length%4q)))=#z(((&4F(.dct (Ji b'))).set H.length (&0V(%6Uh3.length%4q))).set H.length (&0V(%6Uh3.length 0))):=Eb b7 (by simp[Fh]);xb [g1 B6,B6.len,sd,sa1,sa2];h nr:∀i,i<H.length+4→¬R i:=λi hi z=>by h:=hR4 i z;omega
   r(FY (((L6.FZ %0I).FZ %0I).FZ %0I)).toPure ?_;h3;h l0:Dm b'=0:=by rw[←hb'];simp[Dm]
   h l1:NP b'=p:=by rw[←hb'];simp[NP]
   r⟨h3.length,λi hi=>?_,?_,?_,⟨%w,%w⟩,?_,?_,?_,by rw[l0];e #q⟩
   ·k;e B6.lo i hi
   ·rw[l0];e Aq b7
   ·rw[l1,%i,%i,%i];e hk6
   ·F;e Aq B6.sh
   ·k;e B6.sp
   ·rw[←hb'];i;b
  h shT:pq=Ag (#G(fB (%3X2 AY 2%9m))(AI (&5G2 AA 2%9m))) (&e(GJ &0i &J %8m)&5s&4a):=rfl;rw[shT];generalize Ag (GJ &0i &J %8m) (Ag &5s &4a)=G at done ⊢
  cases hd:xl.dropWhile ES with
  |nil=>
   rw[hd] at L5;xb [L5.mth,Fo L5]
   e done B5 hk5 L5
  |cons w5 r5=>
   rw[hd] at L5
   h hw5:w5.w=LOOP:=by
    h:=Ob hd;simpa [ES] using this
   h ds:decide (S w5.w=("loop":Str))=true:=by rw[←lu];s[LK,hw5,decide_true]
   xb [L5.mth,Fo L5,ds];h mu:must e "loop" (w5::r5)=.ok r5:=if_pos hw5;h sw:=C5 L5 (s:="loop") (x:="loop") lit;rw[mu] at sw;o⟨v6,h6,e6,w6,⟨s6,L6,_⟩,_⟩:=sw;rw[e6,A3];h hkj:h3.length≠j:=λz=>hk (by rw[z];e L3.ge);e done (B5.same L5 hR4 s6) ((s6.2 _ hkj).trans hk5) L6
end
%tdu{p:Nat}:∀{ps:%r},inW %6L %7f=ps.contains p
 |[]=>rfl
 |q::ps=>by
  h ih:=du (p:=p) (ps:=ps)
  h:eqW (nW q) %6L=(p==q):=by
   show((q:Int)==(p:Int))=_;by_cases z:p=q
   ·y;i
   ·rw[beq_eq_false_iff_ne.mpr z,beq_eq_false_iff_ne.mpr %w]
  t3
%tka{ps:%r}:%7f.all EA=true:=by simp[nW,EA]
%tjD{h:%a}{k p:Nat}{ps:%r}{neg:Bool}(hk:h[k]? =%V%7f):Uq neg %6L (.ref k) h=&K(if neg then !ps.contains p else &6D):=by
 h:(EA %6L&&%7f.all EA)=true:=by rw[ka];rfl
 s[Uq,AH,hk,Option.orElse,du,this,if_true]
section
variable{H:List O}{SP:O}{lp:Nat}{h h':List O}{b:Book}{R:Nat→Prop}{j e k:Nat}{pre l r:List Word}{w:Word}{T:Table}
%dY9:FT:=fB (%8n1 Bg 2 Ad)
%dcI:FS:=%B4(&E"take_above"3 Cm 2(%1g1 3))(#Y(&l(Uq true)4&4Y)6 1 Av 2 Ad)(%4FBq&J(#b4))
%tcw:Oh=&e(#Y(fOr (%0A%8m&W) (%0A(%X"steps")(&R16)))3 1 Av 2 Ad)(AI (%5Y3 AR 2(%6A1 65535)))(%B3%1w(Dv Y9 cI fuel)(Jo "steps" (oI λi j=>#c) &Z ^T)):=rfl
%tWJ(hR:∀i,R i→H.length+4≤i)(hk:¬R k)(hkl:k≠lp)(hk4:H.length+4≤k)(hD:%8JH 2(λs=>%0x)):∀(l:%g) (had:%r) (h:%a) (pre:%g) (fu:Nat) (x4:&F),Asc had→l.length<fu→had.length+l.length≤70000→BG H SP lp h b→h[k]? =%V(had.map nW)→%8aR→
 Dq (Dv Y9 cI fu [%4E,%e2,%H,%ek,x4] h) (lampsIn T (NP b).contains had l) (λp r=>∃h' pre' x4',r=.nx [%4E,%e2,%H,%ek,x4'] h'∧BG H SP lp h' b∧LA R h' j pre' [] e)
 |l,had,h,pre,0,x4,_,hf,_,_,_,_=>%7Mhf _
 |[],had,h,pre,fu+1,x4,ha,hf,hn,B,hh,L=>by
  rw[Ec];xm [Y9,L.mth,L.more,List.isEmpty_nil]
  e⟨h,pre,x4,rfl,B,L⟩
 |w::r,had,h,pre,fu+1,x4,ha,hf,hn,B,hh,L=>by
  rw[Ec,Ml (e:=e) (r':=r)];generalize hW:Dv Y9 cI fu=Wh;xm [Y9,cI,L.mth,L.more,List.isEmpty_cons];s0;o⟨⟨ai,aat⟩,al⟩:=a;c el;h B1:=B.same L hR s1;r4;w4;h hx':T.lamps[ai]? =%v:=hx;h ea:aat=w.at_:=ea;h gl:BN "lamps" #H h1=%Dlp h1:=B1.ga rfl;s[hx',Option.map_some,Option.getD_some,ea];xm [gl,jD B1.la]
  cases qc:(NP b).contains x.place with
  |false=>
   rw[EW];xm [L1.mth,L1.Fc]
   rfl
  |true=>
   rw[DZ,okE];xm [fLM,hh1,oa];rw[←hW];e WJ hR hk hkl hk4 hD al (had++[x.place]) _ _ fu _ (ha.snoc λq hq=>by simpa using &6Phab q) %w (by simp;omega) (B1.tE hk4 hkl) (Aq hh1) (L1.FZ hk)
%diz(e:Nat)(T:Table)(b:Book)(w0:Word)(l:%g):#wBook:=match b.getLast? with
 |none=>%1f3 w0.at_
 |some s=>do
  let _←holds (decide (s.steps.length<STEPS)) 3 w0.at_
  let y←stepIn e T s l
  return b.dropLast++[y]
%tmh{w0:Word}(hR:∀i,R i→H.length+4≤i∧i<h.length)(hD:%8JH 2(λs=>%0x))(hl:l.length≤65537)(B:BG H SP lp h b)(L:LA R h j (pre++[w0]) l e):
 Sim ((Ib [#H,%7y,&g] h).bind λ_ h1=>^Q) (iz e T b w0 l) (λb' v h'=>∃lp',BG H SP lp' h' b'):=by
 p2;h g2:∀{h1:%a},BG H SP lp h1 b→BN "steps" #H h1=^n(nW %4q):=λB=>B.ga rfl;h en:Ib=BY 5 Oh:=rfl;u iz
 cases hg:b.getLast? with
 |none=>
  have hb:=S2 hg;h o0:%8Mb.length h=%4O:=by rw[hb];rfl
  xb [en,cw,g1 B,B.len,o0,L.mth,L.Fc]
  rfl
 |some s=>
  o⟨b0,hb⟩:=List.getLast?_eq_some_iff.mp hg
  h o0:%8Mb.length h=^A:=by
   h:b.length≠0:=by rw[hb];simp
   c1
  h ln:%4q=s.steps.length:=by s[Dm,hg,Option.map_some,Option.getD_some]
  h ls:NP b=s.speaks:=by s[NP,hg,Option.map_some,Option.getD_some]
  h hns:=B.ns;v;rw[show STEPS=16 from rfl];by_cases q:s.steps.length=16
  ·h o16:%4T%4q 16 h=%4O:=by rw[ln,q];rfl
   rw[decide_eq_false %w,EW];xb [en,cw,g1 B,B.len,o0,g2 B,o16,L.mth,L.Fc];a
  h o16:%4T%4q 16 h=^A:=by
   rw[ln];c1
  rw[decide_eq_true %w,DZ,okE];u stepIn;s[AE];xb [en,cw,g1 B,B.len,o0,g2 B,o16,L.mth];r %Q(DN (lo:=1) (hi:=65535) L (by decide));rintro⟨⟨tv,tat⟩,tl⟩ v h1 ⟨rfl,_,_,w1,_,⟨s1,L1,_⟩,el1⟩;h B1:=B.same L hR4 s1;h om:El [] h1=%Dh1.length(h1++[.lst (([]:%r).map nW)]):=rfl;h hk:¬R h1.length:=λz=>by h:=(hR _ z).2;h:=s1.1;omega
  h hlp:lp<h1.length:=Bo B1.la;h h4n:H.length+4≤h1.length:=Bo B1.sp
  h htl:tl.length≤65537:=by
   h e1:l.length=tl.length+1:=by rw[el1];rfl
   b
  xb [om];h LL:=WJ (k:=h1.length) hR4 hk (Nat.ne_of_gt hlp) h4n hD tl [] (h1++[.lst (([]:%r).map nW)]) _ fuel none .nil (%3ahtl) (by simp;omega) B1.app BX L1.app;rw[ls] at LL;r Dq.pO LL ?_;rintro p ⟨h5,pre5,x4',er,B5,L5⟩;rw[er,B7];h gs:=g2 B5
  h sa:Fj "steps" (.int ((Dm b:Nat)+1)) #H h5=#z(h5.set H.length (&0V(%6Ulp(Dm b+1)))):=by
   rw[show(((Dm b:Nat):Int)+1)=((Dm b+1:Nat):Int) by omega];e Eb B5.bk (by simp[Fh])
  xb [gs,nW,sa];h nr:¬R H.length:=λz=>by h:=hR4 _ z;omega
  h sf:=FY (L5.FZ (o:=&0V(%6Ulp(Dm b+1))) nr);o⟨v6,h6,e6,_,rfl,_⟩:=sf;rw[e6];generalize hy:({s with steps:=s.steps++[⟨tv,p⟩]}:Show)=y;h hdl:b.dropLast=b0:=by rw[hb];simp
  rw[hdl];h l0:Dm (b0++[y])=%4q+1:=by rw[ln,←hy];simp[Dm]
  h l1:NP (b0++[y])=NP b:=by rw[ls,←hy];simp[NP]
  h l2:Ji (b0++[y])=Ji b:=by
   rw[hb,←PQ,←PQ];s[Fp,List.map_append,List.map_cons,List.map_nil];rw[←hy]
  r⟨_,_,rfl,lp,λi hi=>?_,?_,?_,B5.lq,?_,?_,?_,by rw[l0];omega⟩
  ·K;e B5.lo i hi
  ·rw[l0];e Aq B5.bk
  ·h:=B5.lq.1;rw[l1,%i];e B5.la
  ·rw[l2,%i];e B5.sh
  ·K;e B5.sp
  ·h:=B.nb;rw[hb] at this;f3
end
%dbb:FS:=%B5(&E"take"1 Bw 4 Ad)(sIf (^X5"show") (AI (%1c3 Ic 2 0 4)) (sIf (^X5"step") (AI (%1c3 Ib 2 0 4)) (AQ "Fault" AF (%8P3(%1Z(&E"spot"1 Av 4 Ad))))))(AI (&E"finish"1 BD 4 Ad))
%tsu:Om=#F2(Cu "Book" 1 D9 Ad)(&e(%0P(iL (#UCs 1))3(#F4(#v2 BF 1 3)bb))(%0W(fB (Ao "Book" "wants_step" 1 CQ &j Ad))9(%4c1))(Bz (AB "shows" &j))):=rfl
section
variable{H:List O}{T:Table}{bs:Bytes}
%dJB(H:%a)(bs:Bytes)(p:Nat)(b:Book)(τ:Sa)(h:%a):Prop:=(∃x3 x4 x5,τ=[some %7y,#k,%4E,x3,x4,x5])∧∃lp,BG H %7w lp h b
%tSim.stP{α β:Type}{r:%8w}{s:%0K}{Q:α→β→%a→Prop}{k:β→%a→SR}{Q':α→SR→Prop}(h:Sim r s Q)(hk:∀a v h',Q a v h'→Q' a (k v h')):Dq (r.st k) s Q':=by
 cases s with
 |error F=>rw[show r=_ from h];rfl
 |ok a=>o⟨v,h',rfl,q⟩:=h;e hk a v h' q
%taY{F:%p}{j:Nat}{k:W→%a→SR}:(F.st λ_ h2=>(mth "Line" "finish" &g h2 (BD %3i h2)).st k)=(F.bind λ_ h2=>Gx j h2).st k:=by rw[Sg];rfl
%tWu{w:Bytes}{x:Str}{s:String}{h:%a}(hs:S &2u=x):#D%0y%0J h=&K(decide (w=&2u)):=by
 subst hs;s[oEq,LK];a
%tgL(hl:bs.length≤65536)(hD:%8JH 2(λs=>%0x))(b:Book)(τ:Sa)(h:%a)(a l c:Bytes)(hb:bs=a++l++c)(hJ:JB H bs a.length b τ h):
 Dq (Ag (AU 4 (#v2 BF 1 3)) bb (τ.set 3 &5w) h) (HZ (bookLine T) b a l c) (λs' r=>∃τ' h',r=.nx τ' h'∧JB H bs (a.length+l.length+1) s' τ' h'):=by
 o⟨⟨x3,x4,x5,rfl⟩,lp,B⟩:=hJ;r Qb hb hl rfl rfl ?_;rintro j h' ⟨g,rfl⟩ L
 h hwl:%0p.length≤65537:=by
  h:=pT l [] a.length;rw[hb] at hl;simp at hl;b
 generalize wordsFrom a.length [] l=ws at L hwl ⊢;generalize a.length+l.length=e at L ⊢;h B0:BG H %7w lp (h++g) b:=B.app;h L0:=L.rng;h hsp:H.length+3<h.length:=Bo B.sp;h hR:∀i,(gE h.length i∧i<(h++g).length)→H.length+4≤i∧i<(h++g).length:=λi hi=>⟨Nat.le_trans hsp hi.1,hi.2⟩;show Dq (bb [%e2,#k,%4E,_,%H,x5] (h++g)) _ _;u bookLine;generalize hh:h++g=h0 at B0 L0 hR ⊢;xm [bb,L0.mth];r %3q(QN L0);rintro⟨w,r⟩ v h1 ⟨rfl,⟨s1,L1,_⟩,el⟩;h B1:=B0.same L0 (λi hi=>(hR i hi).1) s1;h hR1:∀i,(gE h.length i∧i<h0.length)→H.length+4≤i∧i<h1.length:=λi hi=>by rw[s1.1];e hR i hi
 h hrl:r.length≤65537:=by
  h e1:ws.length=r.length+1:=by rw[el];rfl
  b
 xm [Wu (s:="show") (x:="show") lit];by_cases q1:w.w=ascii "show"
 ·xm [decide_eq_true q1];s[if_pos q1];rw[aY];h H1:=mi (w0:=w) (pre:=[]) hR1 hD hrl B1 L1;r Sim.stP H1 ?_;v9
 ·xm [decide_eq_false q1,Wu (s:="step") (x:="step") lit];s[if_neg q1];by_cases q2:w.w=ascii "step"
  ·xm [decide_eq_true q2];s[if_pos q2];rw[aY];h H1:=mh (w0:=w) (pre:=[]) hR1 hD hrl B1 L1;show Dq _ (iz e T b w r) _;r Sim.stP H1 ?_;v9
  ·xm [decide_eq_false q2,L1.mth,L1.Fc];s[if_neg q2];a
%tQO{x y z:O}{r:%a}:(H++x::r).set H.length y=H++y::r:=by simp
%tOH{x:O}{r:%a}:(H++x::r)[H.length]? =%v:=by simp
%tWb:D9 [#H] (H++[.ins "Book" []])=#t(H++[.ins "Book" %7D,%l,%M]):=by
 h n1:ZE (H++[.ins "Book" []])=&3o(H++[.ins "Book" [],%l]):=by simp[ZE]
 h s1:Fj "shows" %3I #H (H++[.ins "Book" [],%l])=#z(H++[.ins "Book" [("shows",%3I)],%l]):=by
  h6
 h n2:El [] (H++[.ins "Book" [("shows",%3I)],%l])=%D(H.length+2)(H++[.ins "Book" [("shows",%3I)],%l,%M]):=by
  o7
 h s2:Fj "lamps" (.ref (H.length+2)) #H (H++[.ins "Book" [("shows",%3I)],%l,%M])=#z(H++[.ins "Book" [("shows",%3I),("lamps",.ref (H.length+2))],%l,%M]):=by
  h6
 h s3:Fj "steps" #r #H (H++[.ins "Book" [("shows",%3I),("lamps",.ref (H.length+2))],%l,%M])=#z(H++[.ins "Book" %7D,%l,%M]):=by
  h6
 xr [D9,MX,Gb,n1,s1,n2,s2,s3]
%tgK{σ:Sa}:Cu "Book" 1 D9 Ad σ H=&2k(H++[.ins "Book" %7D,%l,%M]):=by
 h:∀F:FF,F [#H] (H++[.ins "Book" []])=#t(H++[.ins "Book" %7D,%l,%M])→Cu "Book" 1 F Ad σ H=&2k(H++[.ins "Book" %7D,%l,%M]):=by
  intro F hF;s[Cu,Ad,A3,List.length_nil,Nat.reduceAdd,if_true,hF]
 e this _ Wb
%tpU{b:Book}:((b.getLast?.map λ(s:Show)=>decide (s.steps.length=0)).getD false)=(decide (0<b.length)&&decide (Dm b=0)):=by
 u Dm
 cases q:b.getLast? with
 |none=>rw[S2 q];rfl
 |some s=>
  have:b≠[]:=by intro z;rw[z] at q;c q
  q5
%tFN(hl:bs.length≤65536)(hD:%8JH 2(λs=>%0x)):Sim (CC [%7y,%3n] H) (T.readBook bs) (λb v h'=>v=%3I∧h'[H.length+1]? =#g(Ji b)∧(∀i,i<H.length→h'[i]? =H[i]?)∧b.length≤32):=by
 h e0:CC [%7y,%3n] H=fin (Om [%e2,#k,none,none,none,none] H):=by u CC;rw[Cg];rfl
 rw[e0,su];u Table.readBook;h hlen:(H++[O.ins "Book" %7D,%l,%M]).length=H.length+3:=by simp
 h rs:Cs &1X (H++[.ins "Book" %7D,%l,%M])=%D(H.length+3)((H++[.ins "Book" %7D,%l,%M])++[spO bs]):=by rw[SG hl,hlen];rfl
 generalize hB:(#F4(#v2 BF 1 3)bb)=B
 h B0:BG H %7w (H.length+2) ((H++[.ins "Book" %7D,%l,%M])++[spO bs]) []:=by
  r⟨λi hi=>?_,?_,?_,⟨Nat.le_refl _,%w⟩,?_,?_,#q,#q⟩
  ·rw[List.append_assoc,&4o]
  ·i;a
  ·simp[NP]
  ·i;a
  ·rw[←hlen];e BX
 h it:%8L(H.length+3)((H++[.ins "Book" %7D,%l,%M])++[spO bs])=some (%5u.map spW):=by s[AH,B0.sp];rfl
 generalize hh:(H++[.ins "Book" %7D,%l,%M])++[spO bs]=h0 at rs it B0;h LL:=Mj (f:=bookLine T) (bs:=bs) (B:=B) (n:=H.length+3) (sp:=%5u) (J:=JB H bs) (λp s τ h hJ=>by o⟨_,lp,B⟩:=hJ;e B.sp) (λs τ h a l b hb hJ=>by rw[←hB];e gL hl hD s τ h a l b hb hJ) (bs.length+1) bs [] 0 [] [%e2,#k,%4E,none,none,none] h0 rfl %0s rfl ⟨⟨none,none,none,rfl⟩,_,B0⟩;h LL:Dq (Di (λi h=>(%8L(H.length+3)h).map λys=>ys[i]?) (tgN 3) B %5u.length 0 [%e2,#k,%4E,none,none,none] h0) (&3G(bookLine T)0 []bs) (λs' r=>∃τ' h',r=.nx τ' h'∧JB H bs bs.length s' τ' h'):=LL;xr [gK,Et,iL,rs,it,List.length_map]
 cases hL:&3G(bookLine T)0 []bs with
 |error F=>
  l1
  rfl
 |ok b=>
  rw[hL] at LL;o⟨τ',h',er,⟨x3,x4,x5,rfl⟩,lp,B1⟩:=LL;rw[er];h g1:BN "shows" #H h'=&3oh':=B1.ga rfl;s[pU];xr [B1.mth,SE B1]
  cases q:(decide (0<b.length)&&decide (Dm b=0)) with
  |true=>
   xr [DU,nW]
   rfl
  |false=>
   xr [g1];e⟨_,h',rfl,rfl,B1.sh,B1.lo,B1.nb⟩
end
%dKp(j:Nat)(h h':%a):Prop:=h.length≤h'.length∧∀i,i<h.length→i≠j→h'[i]? =h[i]?
section
variable{j c:Nat}{h h1 h2 h':List O}
%tKp.refl:Kp j h h:=⟨Nat.le_refl _,λ_ _ _=>rfl⟩
%tFC.kp(s:FC j h h'):Kp j h h':=⟨Nat.le_of_eq s.1.symm,λi _ hi=>s.2 i hi⟩
%tKp.trans(a:Kp j h h1)(b:Kp j h1 h2):Kp j h h2:=⟨Nat.le_trans a.1 b.1,λi hi hj=>(b.2 i (Nat.lt_of_lt_of_le hi a.1) hj).trans (a.2 i hi hj)⟩
%tKp.app{g:%a}:Kp j h (h++g):=⟨by simp,λi hi _=>&4o⟩
%tKp.bh{o:O}(a:Kp j h h')(hc:h.length≤c):Kp j h (h'.set c o):=⟨by rw[List.length_set];e a.1,λi hi hj=>by rw[Ac %w];e a.2 i hi hj⟩
%tKp.get{i:Nat}{o:O}(a:Kp j h h')(hi:i≠j)(q:h[i]? =%b):h'[i]? =%b:=(a.2 i (Bo q) hi).trans q
end
%dncB:FE:=Am (oI λi j=>.int (Builtin.bitAnd i j)) (%6J(oIC (λ_ j=>decide (0≤j)) λi j=>.int (i/2^j.toNat))(%4z(oIC cq λi j=>.int (i*j))(&R8))) (&R255)
%tvG:KJ=Bz (fLc (iR1 (#b1)) 2 ncB):=rfl
%dncF(z:Int):W→W:=λx=>match x with
 |.int i=>.int ((z/2^(8*i).toNat)%256)
 |_=>.non
%tuK{i:Int}:cq 8 i=true:=by
 u cq;decide
%tnz{z:Int}{x1:&F}{i:Nat}{h:%a}:ncB [%0fz,x1,&0z] h=%s(ncF z &1H):=by
 h h0:(0:Int)≤8*(i:Int):=%w;xr [ncB,oIC,uK,decide_eq_true h0,bitAnd_m8,ncF]
%tiU{z:Int}{n:Nat}{h:%a}(hn:n≤16):Bs [.int z,.int (n:Int)] h=%3j((List.range n).map λi=>ncF z (.int ((i:Nat):Int))):=by
 h e0:Bs [.int z,.int (n:Int)] h=fin (KJ [%0fz,%0f(n:Int),none] h):=by u Bs;rw[Cg];rfl
 rw[e0,vG];h r1:=nP (f:=#b1) (σ:=[some (.int z),%0f(n:Int),none]) (h:=h) (j:=(n:Int)) (by xr []) (Sw %w)
 h:=OD (it:=λi _=>some (if i<(n:Int).toNat then %0f(0+(i:Int)) else none)) (i:=2) (fe:=ncB) (σ:=[some (.int z),%0f(n:Int),none]) (h:=h) (f:=ncF z)
  ((List.range n).map λi=>.int ((i:Nat):Int)) 0 [] (λk hk=>by
    s[Int.toNat_natCast,Nat.zero_add,List.getElem?_map,List.getElem?_range,Option.map_if];by_cases q:k<n
    ·rw[if_pos q,List.getElem?_range q];i
    ·rw[if_neg q,List.getElem?_eq_none (by simpa using q)];simp) (λx hx=>by
    o⟨i,_,rfl⟩:=&4x
    e⟨⟨h,nz⟩,rfl⟩) (by simp;e %5Rhn)
 s[List.length_map,List.length_range] at this;xr [fLc,r1];rw[show((n:Int)).toNat=n from rfl] at this ⊢;l;n2;a
%dAi(b:Bytes):%m:=b.map bW
%tCS{n:Nat}(h:n<256):%7Sn=nW n:=by
 u bW;rw[UInt8.toNat_ofNat_of_lt' (by simpa using h)]
%tqK(i:Nat):(256:Nat)^i=2^(8*i):=by rw[show(256:Nat)=2^8 from rfl,←Nat.pow_mul]
%tpF{z:Int}{n:Nat}:(List.range n).map (λi=>ncF z (.int ((i:Nat):Int)))=Ai (le n (z%2^(8*n)).toNat):=by
 u Ai le;d0;apply List.map_congr_left;intro i hi;h hi:i<n:=List.mem_range.mp hi;s[Function.comp,ncF];rw[CS (Nat.mod_lt _ (by decide))];u nW;n;h e1:(8*(i:Int)).toNat=8*i:=%w;h hp:(0:Int)<2^(8*n):=Int.pow_pos (by decide);h hm:=Int.emod_nonneg z (Int.ne_of_gt hp);rw[e1,Int.natCast_emod,Int.natCast_ediv,Int.toNat_of_nonneg hm,qK];h e2:(((2:Nat)^(8*i):Nat):Int)=(2:Int)^(8*i):=by simp
 rw[e2];show z/2^(8*i)%256=(z%2^(8*n))/2^(8*i)%256
 h hd:(2:Int)^(8*n)=2^(8*i)*(256*2^(8*(n-i-1))):=by
  rw[show(256:Int)=2^8 from rfl,←Int.pow_add,←Int.pow_add];n;b
 h hpi:(2:Int)^(8*i)≠0:=Int.ne_of_gt (Int.pow_pos (by decide));generalize(2:Int)^(8*(n-i-1))=M at hd;generalize(2:Int)^(8*i)=P at hd hpi ⊢;rw[hd,Int.emod_def z]
 rw[show z-P*(256*M)*(z/(P*(256*M)))=z+P*(-(256*(M*(z/(P*(256*M)))))) by
  rw[Int.mul_neg,←Int.sub_eq_add_neg];congr 1;s[Int.mul_assoc]]
 rw[Int.add_mul_ediv_left _ _ hpi];rw[←Int.mul_neg,Int.add_mul_emod_self_left]
%tcP{z:Int}{h:%a}:Bs [.int z,.int 4] h=%1J(le32 z):=by
 h:=iU (z:=z) (n:=4) (h:=h) (by decide);rw[pF] at this;G
%tcQ{t:Nat}{h:%a}(ht:t<65536):Bs [nW t,.int 2] h=%1J(le 2 t):=by
 h:=iU (z:=(t:Int)) (n:=2) (h:=h) (by decide);rw[pF] at this
 h e:(((t:Int))%2^(8*2)).toNat=t:=by
  rw[show(2:Int)^(8*2)=65536 from rfl];b
 rw[e] at this;G
%dnmD(r0 sh:Nat):&u:=[(.inr "switch",.ref 1),(.inr "lamp",%7y),(.inr "coil",.ref 3),(.inr "device",.ref 6),(.inr "show",&2y),(.inr "variable",&3A),(.inr "timer",.ref (r0+5)),(.inr "signal",.ref (r0+6)),(.inr "mode",.ref (r0+7))]
%dEr(R:Rules):List (Var×Nat):=R.vars.zipIdx++R.mines.zipIdx 64
%dPJ(R:Rules):&u:=&2I(λx=>#S)%3z
%dM0(ns:#s):&u:=Fp (λx:Bytes×Nat=>x.1) (λx=>#S) ns.zipIdx
structure NE(r0 sh:Nat)(T:Table)(B:Book)(R:Rules)(h:%a):Prop where
 tab:∀i,i<11→h[i]? =some (HU .hole %I i)
 shw:h[sh]? =#g(Ji B)
 nms:h[r0+2]? =#g%7F
 var:h[r0+4]? =#g(PJ R)
 tim:h[r0+5]? =%7GR.timers
 sig:h[r0+6]? =%7GR.signals
 mod:h[r0+7]? =%7GR.modes
 r11:11≤r0
 shl:sh<r0
structure RK'(R:Rules):Prop where
 nva:R.vars.length≤64
 nmi:R.mines.length≤32
 nti:R.timers.length≤16
 nsi:R.signals.length≤64
 nmo:R.modes.length≤15
 vnm:∀n∈R.varNames,%9z=true
 tnm:∀n∈R.timers,%9z=true
 snm:∀n∈R.signals,%9z=true
 mnm:∀n∈R.modes,%9z=true
section
variable{r0 sh j:Nat}{T:Table}{B:Book}{R:Rules}{h h':List O}
%tNE.kp(N:NE r0 sh T B R h)(k:Kp j h h')(hj:r0+8≤j):NE r0 sh T B R h':=by
 h:=N.r11;h:=N.shl;e⟨λi hi=>%5i(N.tab i hi),%5iN.shw,%5iN.nms,%5iN.var,%5iN.tim,%5iN.sig,%5iN.mod,N.r11,N.shl⟩
%tNE.get{x:Str}{v:W}(N:NE r0 sh T B R h)(hv:%1N%7F x=%W):Bf ^q %0J h=%8D:=by
 s[Bf,C6 N.nms,keyOf,hv]
end
%tOv{ns:#s}{k:Nat}:ns=(ns.zipIdx k).map λx=>x.1:=(List.zipIdx_map_fst k ns).symm
%tEj{b:Nat→Prop}{j e d:Nat}{h:%a}{pre l:%g}{ns:#s}(L:&k)(D:h[d]? =%7Gns):
 Sim (Al %9u h) (%1dns l) (λa v h'=>v=&0Q∧a.1.1<ns.length∧∃w,a.1.2=w.at_∧Adv b h j pre a.2 e w h'∧l=w::a.2):=by
 h:=Dr (nm:=λx:Bytes×Nat=>x.1) (vl:=λx=>#S) (xs:=ns.zipIdx) (d:=d) L D;rw[←Ov] at this;r this.imp ?_;m1;rw[List.getElem?_zipIdx] at hx
 cases hn:ns[a.1.1]? with
 |none=>rw[hn] at hx;c hx
 |some n=>
  rw[hn] at hx;w2
%tLR{R:Rules}{n:Bytes}:&3S=(%3z.find? λx=>x.1.name==n).map λx=>x.2:=by
 u Rules.varOf Er
 h key:∀(vs:List Var) (k:Nat),((vs.zipIdx k).find? λx=>x.1.name==n).map (λx=>x.2)=(vs.findIdx? λv=>v.name==n).map λi=>k+i:=by
  intro vs
  induction vs with
  |nil=>intro k;rfl
  |cons v vs ih=>
   intro k;rw[List.zipIdx_cons,List.find?_cons,List.findIdx?_cons]
   cases q:v.name==n with
   |true=>simp
   |false=>
    s[Bool.false_eq_true,if_false];rw[ih (k+1),Option.map_map];n;funext i;d1;b
 rw[List.find?_append];h k1:=key R.vars 0;h k2:=key R.mines 64
 cases q:R.vars.findIdx? λv=>v.name==n with
 |some i=>
  rw[q] at k1
  cases q2:(R.vars.zipIdx 0).find? λx=>x.1.name==n with
  |none=>rw[q2] at k1;c k1
  |some y=>
   rw[q2] at k1;s[Option.map_some,Option.some.injEq] at k1
   s[Option.some_or,Option.map_some,k1,Nat.zero_add]
 |none=>
  rw[q] at k1
  cases q2:(R.vars.zipIdx 0).find? λx=>x.1.name==n with
  |some y=>rw[q2] at k1;c k1
  |none=>
   s[Option.none_or];rw[k2];a
%tHS{R:Rules}:%3z.map (λx=>x.1.name)=R.varNames:=by
 u Er Rules.varNames;rw[List.map_append,List.map_append]
 h z:∀(vs:List Var) (k:Nat),(vs.zipIdx k).map (λx=>x.1.name)=vs.map λv=>v.name:=by
  intro vs k;h z:=&6i(List.map λs:Var=>s.name)k vs;e9;e z
 rw[z,z]
%tPH{R:Rules}{n:Bytes}{v:Nat}(K:%5F)(h:&3S=%W):%9z=true∧v<96:=by
 rw[LR] at h
 cases q:%3z.find? λx=>x.1.name==n with
 |none=>rw[q] at h;c h
 |some x=>
  rw[q] at h;c h;h hm:=List.mem_of_find?_eq_some q;h hn:x.1.name=n:=by simpa using List.find?_some q
  r⟨?_,?_⟩
  ·rw[←hn];r K.vnm _ ?_;rw[←HS];e List.mem_map_of_mem hm
  ·show x.2<96;u Er at hm;h:=K.nva;h:=K.nmi;rcases List.mem_append.mp hm with z|z
   ·h:=List.snd_lt_of_mem_zipIdx z;b
   ·h:=List.snd_lt_of_mem_zipIdx z;b
%tRu{R:Rules}{d:Nat}{h:%a}{n:Bytes}{neg:Bool}(hd:h[d]? =#g(PJ R)):Ip neg %5D ^z h=&K(if neg then !&3S.isSome else&3S.isSome):=by
 h e:&3S.isSome=(%3z.map λx=>x.1.name).contains n:=by rw[LR,Option.isSome_map,Cp]
 t;e bI (nm:=λx:Var×Nat=>x.1.name) (vl:=λx=>#S) (xs:=%3z) hd
%tfO{R:Rules}{d v:Nat}{h:%a}{n:Bytes}(hd:h[d]? =#g(PJ R))(hv:&3S=%W):Bf ^z %5D h=%1Ov:=by
 rw[LR] at hv
 cases q:%3z.find? λx=>x.1.name==n with
 |none=>rw[q] at hv;c hv
 |some x=>
  rw[q] at hv;c hv;e cX (nm:=λx:Var×Nat=>x.1.name) (vl:=λx=>#S) (xs:=%3z) hd q
%dkdS(xs:&1F):W:=.kd (xs.map λx=>((.inr (S x.1):Key),x.2))
%tMe{xs:&1F}{w:Bytes}{neg:Bool}{h:%a}:Up neg %0y (kdS xs) h=&K(if neg then !(xs.map λx=>x.1).contains w else(xs.map λx=>x.1).contains w):=by
 h:(%1N(xs.map λx=>((.inr (S x.1):Key),x.2))%1Y).isSome=(xs.map λx=>x.1).contains w:=by
  rw[IX (nm:=λx:Bytes×W=>x.1) (vl:=λx=>x.2),Option.isSome_map,Cp]
 s[Up,kdS,keyOf,this]
%tRr{xs:&1F}{w:Bytes}{x:Bytes×W}{h:%a}(hx:(xs.find? λx=>x.1==w)=%v):EI (kdS xs) %0y h=%sx.2:=by
 h:%1N(xs.map λx=>((.inr (S x.1):Key),x.2))%1Y=some x.2:=by
  rw[IX (nm:=λx:Bytes×W=>x.1) (vl:=λx=>x.2),hx];a
 s[EI,kdS,keyOf,this]
%tZM{w:Bytes}(h:&2g=true):intOf w=none∧likeInt w=false:=by
 u isName at h
 cases w with
 |nil=>simp at h
 |cons c r=>
  s[Bool.and_eq_true,List.head?_cons,Option.map_some,Option.getD_some] at h;h hs:&3R=true:=h.2.2.2;h hd:%9t=false∧c≠45:=(Qm (p:=λc=>&3R=true→%9t=false∧c≠45) (by decide+kernel)) c hs
  h hn:&6t=none:=by
   u numberOf;rw[if_pos (%7O(by simp[hd.1]))]
  r⟨?_,?_⟩
  ·h e1:intOf (c::r)=&6t.bind λ(n:Nat)=>if fitsInt n=true then some (n:Int) else none:=by
    u intOf;B
    ·rename_i z;c z;e ^Uhd.2
    ·a
   rw[e1,hn];a
  ·u likeInt;rw[if_neg (by simpa using hd.2)];simp[hd.1]
%dFew{α:Type}(had:Nat)(w:Word)(r:%0K):%0K:=if had<63 then r else %1f10 w.at_
%tSK:OPS.Nodup:=by decide+kernel
%tWU:∀o:Fin 9,intOf &3T=none∧likeInt &3T=false∧&3T≠&3m∧&3T≠&1U∧&3T≠&1B∧&3T≠%7g:=by decide+kernel
%tex_map{α β:Type}{s:%0K}{f:α→β}:s.map f=(s>>= λa=>pure (f a)):=by c s<;>rfl
section
variable{T:Table}{R:Rules}{e k had:Nat}{w:Word}{r:List Word}
%tEi(K:%5F):exWords T R e (k+1) had (w::r)=
 if w.w=%7g then Few had w (exWords T R e k (had+1) r>>= λy=>pure ((Ex.not_ y.1.1,y.1.2),y.2))
 else match OPS.findIdx? λo=>o==w.w with
 |some o=>Few had w (exWords T R e k (had+1) r>>= λy=>exWords T R e k y.1.2 y.2>>= λz=>pure ((Ex.two o y.1.1 z.1.1,z.1.2),z.2))
 |none=>if w.w=&3m then Few had w (known e R.timers r>>= λy=>pure ((Ex.left y.1.1,had+1),y.2))
  else if w.w=&1U then Few had w (known e R.modes r>>= λy=>pure ((Ex.in_ y.1.1,had+1),y.2))
  else if w.w=&1B then Few had w (known e (T.switches.map Switch.name) r>>= λy=>pure ((Ex.closed (((T.switches[y.1.1]?).map Switch.place).getD 0),had+1),y.2))
  else match R.varOf w.w with
  |some v=>Few had w (.ok ((Ex.var v,had+1),r))
  |none=>match intOf w.w with
   |some z=>Few had w (.ok ((Ex.num z,had+1),r))
   |none=>%1f(if likeInt w.w=true then 4 else if ^f=true then 6 else 3)w.at_:=by
 conv=>lhs;unfold exWords
 s[next,ex_map,show PARTS=63 from rfl];by_cases q1:w.w=%7g
 ·h h1:&1Z=none:=by rw[q1];decide+kernel
  h h2:¬likeInt w.w=true:=by rw[q1];decide+kernel
  h h3:¬w.w=&3m:=by rw[q1];decide+kernel
  h h4:¬w.w=&1U:=by rw[q1];decide+kernel
  h h5:¬w.w=&1B:=by rw[q1];decide+kernel
  s[h1,&5D,if_neg h3,if_neg h4,if_neg h5,if_pos q1];a
 ·s[if_neg q1];rcases GF SK w.w with⟨o,ho,hf,hw,_⟩|⟨hf,_⟩
  ·o⟨f1,f2,f3,f4,f5,f6⟩:=WU ⟨o,ho⟩;s[←hw] at f1 f2 f3 f4 f5;h f2:¬likeInt w.w=true:=by rw[f2];e Bool.false_ne_true
   s[f1,if_neg f2,if_neg f3,if_neg f4,if_neg f5,hf];u Few;n;c exWords T R e k (had+1) r<;>rfl
  ·s[hf];by_cases q3:w.w=&3m
   ·h h1:&1Z=none:=by rw[q3];decide+kernel
    h h2:¬likeInt w.w=true:=by rw[q3];decide+kernel
    s[h1,&5D,if_pos q3];a
   by_cases q4:w.w=&1U
   ·h h1:&1Z=none:=by rw[q4];decide+kernel
    h h2:¬likeInt w.w=true:=by rw[q4];decide+kernel
    s[h1,&5D,if_neg q3,if_pos q4];a
   by_cases q5:w.w=&1B
   ·h h1:&1Z=none:=by rw[q5];decide+kernel
    h h2:¬likeInt w.w=true:=by rw[q5];decide+kernel
    s[h1,&5D,if_neg q3,&2b,if_pos q5];a
   s[if_neg q3,&2b,if_neg q5]
   cases hv:&5a with
   |some v=>
    o⟨h1,h2⟩:=ZM (PH K hv).1;h h2:¬likeInt w.w=true:=by rw[h2];e Bool.false_ne_true
    s[h1,&5D]
    rfl
   |none=>
    cases hi:&1Z with
    |some z=>rfl
    |none=>
     v;by_cases q6:likeInt w.w=true
     ·s[if_pos q6]
     ·s[if_neg q6]
%dGh(T:Table)(R:Rules)(e:Nat):%r→Nat→%g→Except Fault ((Bytes×Nat)×%g)
 |[],had,l=>.ok (([],had),l)
 |k::ks,had,l=>exWords T R e k had l>>= λy=>Gh T R e ks y.1.2 y.2>>= λz=>pure ((y.1.1.code++z.1.1,z.1.2),z.2)
end
%dKN:&1F:=[(ascii "left",%6n2),(ascii "in",&Y3%0d),(ascii "closed",%1I4)]
%tsJ:S &3m="left":=lit
%tvM:S &1U="in":=lit
%tly:S &1B="closed":=lit
%tdk:W.kd [(.inr "left",(%6n2)),(.inr "in",(&Y3%0d)),(.inr "closed",(%1I4))]=kdS KN:=by
 u kdS KN;s[List.map_cons,List.map_nil,sJ,vM,ly]
%tU4:W.ktp [.str "+",.str "-",.str "*",.str "/",&5B,.str "<",.str "=",.str "&",.str "|"]=.ktp (OPS.map λs=>%1r):=by
 h e:(["+","-","*","/","\n","<","=","&","|"]:%u)=OPS.map S:=by decide+kernel
 u9;G
%tvN:S %7g="!":=lit
section
variable{r0 sh:Nat}{T:Table}{B:Book}{R:Rules}{h h':List O}{w:Bytes}
%dVR(R:Rules)(w:Bytes):Bool:=decide (w=%7g)||(OPS.contains w||((KN.map λx=>x.1).contains w||(&3W.isSome||(intOf w).isSome)))
%to4{o:%S}{h:%a}:oIs true (zW o) .non h=&Ko.isSome:=by c o<;>rfl
%tYM(N:NE r0 sh T B R h)(ok:Bok w):DD [^q,%0y] h=&K(VR R w):=by
 m4;u VR;xr [DD,LJ,dk,U4,Wu (s:="!") (x:="!") lit,Nz (h:=h) (t:=.ktp (OPS.map λs=>%1r)) (ns:=OPS) rfl rfl,Me,g,Ru N.var,LZ ok.1 ok.2.1 ok.2.2,o4]
 cases decide (w=%7g) with
 |true=>xr [Bool.true_or]
 |false=>
  xr [Bool.false_or]
  cases OPS.contains w with
  |true=>xr [Bool.true_or]
  |false=>
   xr [Bool.false_or]
   cases(KN.map λx=>x.1).contains w with
   |true=>xr [Bool.true_or]
   |false=>
    xr [Bool.false_or,g,Ru N.var]
    cases&3W.isSome with
    |true=>xr [Bool.true_or]
    |false=>xr [Bool.false_or,LZ ok.1 ok.2.1 ok.2.2,o4]
%tee(ok:Bok w):Dt %8d h=%1F((if likeInt w=true then 4 else if &2g=true then 6 else 3:Nat):Int):=by
 xr [Dt,Kn,iV ok.1 ok.2.1 ok.2.2,Nr ok.1 ok.2.1]
 cases likeInt w with
 |true=>xr [];rfl
 |false=>
  xr [Nr ok.1 ok.2.1]
  cases isName w with
  |true=>xr [];rfl
  |false=>xr [];rfl
%tng{n:Nat}:Gy [nW n] h=%1O(if 6≤n then 2 else if n=5 then 1 else 0):=by
 xr [Gy,VU,nW,oEq];by_cases q:6≤n
 ·h q2:(6:Int)≤n:=%w;xr [decide_eq_true q2,%7i];a
 ·h q2:¬(6:Int)≤n:=%w;xr [decide_eq_false q2,%3V,oEq];by_cases q3:n=5
  ·h q4:(n:Int)=5:=%w;xr [decide_eq_true q4,if_pos q3];a
  ·h q4:¬(n:Int)=5:=%w;xr [decide_eq_false q4,if_neg q3];a
end
%tdq{x y:W}{h:%a}:oIx (%4tx y) #r h=&0a:=rfl
%tdn{x y:W}{h:%a}:oIx (%4tx y) %6r h=%sy:=rfl
section
variable{r0 sh j e:Nat}{T:Table}{B:Book}{R:Rules}{h h':List O}{w:Bytes}{b:Nat→Prop}{pre l:List Word}
%tfG(N:NE r0 sh T B R h):BS [^q,&g,%Z%7g] h=%1J[5]:=by
 h o1:oLst [.int 5] h=%1J[5]:=rfl;xr [BS,GI,Wu (s:="!") (x:="!") lit,decide_true,o1]
%tm8{o:Nat}(ho:o<9):BS [^q,&g,%Z(&3bo)] h=%1J(%6W(6+o)):=by
 o⟨f1,f2,f3,f4,f5,f6⟩:=WU ⟨o,ho⟩;h hx:&3bo=OPS[o]'ho:=by rw[List.getD_eq_getElem?_getD,List.getElem?_eq_getElem (show o<OPS.length from ho)];rfl
 h hc:OPS.contains (&3bo)=true:=by rw[hx,List.contains_iff_mem];e List.getElem_mem _
 h e0:Tz (OPS.map λs=>%1r) [%Z(&3bo)] h=%1Oo:=by
  h hf:(OPS.map λs=>%6os).findIdx? (λz=>eqW z (%Z(&3bo)))=%b:=by
   y1;r⟨ho,?_,λk hk=>?_⟩
   ·rw[hx];show(S OPS[o]==S OPS[o])=true;i
   ·rw[hx];show¬(S (OPS[k]'(Nat.lt_trans hk ho))==S OPS[o])=true;rw[beq_iff_eq,LK];e List.pairwise_iff_getElem.mp SK k o (Nat.lt_trans hk ho) ho hk
  h hfl:(OPS.map λs=>%6os).all EA=true:=by simp[EA]
  s[Tz,EA,hfl,Bool.and_self,if_true,hf];a
 h o1:oLst [.int (6+(o:Int))] h=%1J(%6W(6+o)):=by
  h:Ai (%6W(6+o))=[.int (6+(o:Int))]:=by
   show[bW (UInt8.ofNat (6+o))]=_;rw[CS %w];show[W.int ((6+o:Nat):Int)]=_;rw[show((6+o:Nat):Int)=6+(o:Int) by omega]
  l;a
 xr [BS,GI,Wu (s:="!") (x:="!") lit,decide_eq_false f6,U4,Nz (h:=h) (t:=.ktp (OPS.map λs=>%1r)) (ns:=OPS) rfl rfl,hc,fTM,e0,nW,o1]
%tPY{kb:UInt8}{key:Str}{d:Nat}{α:Type}{s:%0K}{Q:α→W→%a→Prop}(N:NE r0 sh T B R h)(L:&k)(hne:w≠%7g)(hno:OPS.contains w=false)(hf:KN.find? (λx=>x.1==w)=some (w,%4t(bW kb)^E))
 (hd:%1N%7F key=%ed) (H:Sim (Al %9u h) s Q):Sim (BS [^q,&g,%0y] h) s (λa v h'=>∃v1,v=.lst [bW kb,v1]∧Q a v1 h'):=by
 h hc:(KN.map λx=>x.1).contains w=true:=by rw[←&5L,hf];rfl
 xb [BS,GI,Wu (s:="!") (x:="!") lit,decide_eq_false hne,U4,dk,Nz (h:=h) (t:=.ktp (OPS.map λs=>%1r)) (ns:=OPS) rfl rfl,hno,Me,hc,Rr hf,dq,dn,N.get hd,L.mth]
 cases s with
 |error F=>rw[show Al _ h=_ from H];rfl
 |ok a=>
  o⟨v,h',e1,q⟩:=H;A;e⟨_,h',rfl,v,rfl,q⟩
%tjt{v:Nat}(N:NE r0 sh T B R h)(K:%5F)(hne:w≠%7g)(hno:OPS.contains w=false)(hk:(KN.map λx=>x.1).contains w=false)(hv:&3W=%W):BS [^q,&g,%0y] h=%1J[1,UInt8.ofNat v]:=by
 m4
 h o1:oLst [%6r,nW v] h=%1J[1,UInt8.ofNat v]:=by
  h:Ai [1,UInt8.ofNat v]=[.int 1,nW v]:=by
   show[bW 1,%7Sv]=_;h:=(PH K hv).2;rw[CS %w];a
  l;a
 h hs:&3W.isSome=true:=by rw[hv];rfl
 xr [BS,GI,Wu (s:="!") (x:="!") lit,decide_eq_false hne,U4,dk,Nz (h:=h) (t:=.ktp (OPS.map λs=>%1r)) (ns:=OPS) rfl rfl,hno,Me,hk,g,Ru N.var,hs,fO N.var hv,o1]
%tju{z:Int}(N:NE r0 sh T B R h)(ok:Bok w)(hne:w≠%7g)(hno:OPS.contains w=false)(hk:(KN.map λx=>x.1).contains w=false)(hv:&3W=none)(hz:intOf w=%9U):BS [^q,&g,%0y] h=%1J(0::le32 z):=by
 m4;h hs:&3W.isSome=false:=by rw[hv];rfl
 h o1:oLst %9p h=%3j%9p:=rfl
 h o2:Lg (.lst %9p) (&S(le32 z)) h=%1J(0::le32 z):=by
  h:(Ai (le32 z)).length=4:=by simp[Ai,le32,le]
  s[Lg,Em,this];a
 xr [BS,GI,Wu (s:="!") (x:="!") lit,decide_eq_false hne,U4,dk,Nz (h:=h) (t:=.ktp (OPS.map λs=>%1r)) (ns:=OPS) rfl rfl,hno,Me,hk,g,Ru N.var,hs,LZ ok.1 ok.2.1 ok.2.2,hz,zW,cP,o1,o2]
end
%dexC:FT:=&l(oI λi j=>^S)4&W
%dexT:FS:=%B6(%1c3 BS 0 1 5)(%4FB9&j(#b6))(SD 4 (oI λi j=>#c) (^h(oI λi j=>%8b)(%4r1 Gy(%6s(fV 6)))))
%dexB:FS:=%B5(&E"take"1 Bw 1 Ad)(#G(VI (fB (#v2 DD 0 5)))(AQ "Fault" AF (%1R(#UDt 5)(&E"spot"1 Av 1 Ad))))(&e(#Y(%0u3(&R63))10 1 Av 1 Ad)(SD 3 (oI λi j=>#c) ^T)exT)
%tvH:Hd=%B2%1w(AU 3 &W)(%B4^T(Dv exC exB fuel)(Bz &j)):=rfl
%dWf(n:Nat):Nat:=if 6≤n then 2 else if n=5 then 1 else 0
%tkl{h:%a}{c:Nat}{acc cs:Bytes}(hc:h[c]? =%4Q)(hl:acc.length+cs.length≤16777216):B9 c [&Scs] h=#t(%1Ec(acc++cs)):=by
 p1;s[B9,hc,Em,&4U,ba]
%dexZ:FS:=(Ag (%4FB9&j(#b6)) (SD 4 (oI λi j=>#c) (^h(oI λi j=>%8b)(%4r1 Gy(%6s(fV 6))))))
%tnV{x0 x1 x3:&F}{k:UInt8}{cs acc:Bytes}{c n:Nat}{x5:&F}{h2:%a}(hc:h2[c]? =%4Q)(hl:acc.length+(k::cs).length≤16777216)(hn:1≤n):
 exZ [x0,x1,^M,x3,&hn,x5,%5X(k::cs)] h2=
 .nx [x0,x1,^M,x3,&h(n-1+Wf k.toNat),x5,%5X(k::cs)] (h2.set c (&S(acc++k::cs))):=by
 h o1:∀h:%a,oIx (&S(k::cs)) #r h=%1Ok.toNat:=by
  intro h;s[oIx,AH,Option.orElse,Ai,List.map_cons,atI,ixN];simp[bW]
 h o2:∀h:%a,Gy [nW k.toNat] h=%1O(Wf k.toNat):=λh=>ng;h e1:((n:Int)+((Wf k.toNat:Int)-1))=((n-1+Wf k.toNat:Nat):Int):=%w;h e2:nW (n-1+Wf k.toNat)=.int ((n:Int)+((Wf k.toNat:Int)-1)):=by rw[e1];rfl
 rw[e2];xr [exZ,fLM,hc,kl hc hl,o1,o2];xr [nW]
section
variable{r0 sh j e c:Nat}{T:Table}{B:Book}{R:Rules}{h0:List O}{b:Nat→Prop}
%dQE(r0 j c e:Nat)(h0:%a)(b:Nat→Prop)(acc:Bytes)(z:(Bytes×Nat)×%g)(r:SR):Prop:=∃h' pre' x5 x6,r=.nx [%3g,%H,^M,&hz.1.2,&h0,x5,x6] h'∧Kp j h0 h'∧h'[c]? =%5X(acc++z.1.1)∧LA b h' j pre' z.2 e∧z.1.2≤63∧(acc++z.1.1).length≤5*z.1.2
%tDq.toP{α β:Type}{r:SR}{s:%0K}{Q:α→SR→Prop}{g:α→β}{Q':β→SR→Prop}(h:Dq r s Q)(hk:∀a,Q a r→Q' (g a) r):Dq r (s>>= λa=>pure (g a)) Q':=by
 cases s with
 |error F=>e h
 |ok a=>e hk a h
%tQE.cons{acc cs:Bytes}{z:(Bytes×Nat)×%g}{r:SR}(q:QE r0 j c e h0 b (acc++cs) z r):QE r0 j c e h0 b acc ((cs++z.1.1,z.1.2),z.2) r:=by
 u QE at q ⊢;s[←List.append_assoc];e q
%tcp{R:Rules}{w:Bytes}(h:(KN.map λx=>x.1).contains w=true):VR R w=true:=by
 u VR;rw[h];s[Bool.true_or,Bool.or_true]
%tdE{x0 x1 x2 x3 x5 x6:&F}{n:Nat}{h:%a}:exC [x0,x1,x2,x3,&hn,x5,x6] h=%s(decide (0<n)):=by
 h e1:decide ((0:Int)<(n:Int))=decide (0<n):=by
  by_cases q:0<n
  ·rw[decide_eq_true q,&0g]
  ·rw[decide_eq_false q,&0f]
 xr [exC,nW,e1]
%tJC{a b2 w:W}{x2 x3 x4 x6:&F}{h:%a}:exT [&1i,some b2,x2,x3,x4,some w,x6] h=(BS [a,b2,w] h).st λv h2=>exZ [&1i,some b2,x2,x3,x4,some w,%W] h2:=by
 generalize hF:BS=F;u exT;rw[hF];show Ag _ exZ _ _=_;generalize exZ=Z;xr []
%tdD(N0:NE r0 sh T B R h0)(K:%5F)(KT:∀s∈T.switches,s.place≤63)(hj:r0+8≤j)(hc0:h0.length≤c)(hcb:¬b c):∀(fu:Nat) (ks:%r) (had:Nat) (l:%g) (acc:Bytes) (h:%a) (pre:%g) (x5 x6:&F),(∀k∈ks,64≤k+had)→had≤63→65≤fu+had→acc.length≤5*had→Kp j h0 h→h[c]? =%4Q→&k→
 Dq (Dv exC exB fu [%3g,%H,^M,&hhad,&hks.length,x5,x6] h) (Gh T R e ks had l) (QE r0 j c e h0 b acc)
 |0,ks,had,l,acc,h,pre,x5,x6,_,h1,h2,_,_,_,_=>%w
 |fu+1,[],had,l,acc,h,pre,x5,x6,hks,h63,hfu,hacc,kp,hc,L=>by
  rw[Ec,dE,F6]
  e⟨h,pre,x5,x6,rfl,kp,by rw[List.append_nil];e hc,L,h63,by rw[List.append_nil];e hacc⟩
 |fu+1,k::ks,had,l,acc,h,pre,x5,x6,hks,h63,hfu,hacc,kp,hc,L=>by
  rw[Ec,dE,F6,if_pos (decide_eq_true (by simp))];generalize hW:Dv exC exB fu=Wh;h hk0:64≤k+had:=hks k (List.mem_cons_self ..);obtain⟨k,rfl⟩:∃k',k=k'+1:=⟨k-1,%w⟩;h hks':∀k∈ks,64≤k+(had+1):=λk hk=>by h:=hks k (#ahk);omega
  cases l with
  |nil=>
   have e0:Gh T R e ((k+1)::ks) had []=%1f3 e:=by
    show exWords T R e (k+1) had []>>= _=_;u exWords;a
   rw[e0];xm [exB,L.mth,L.none]
   rfl
  |cons w r=>
   o⟨h1,e1,s1,L1⟩:=L.take;h ok:=&2Hw;h kp1:=kp.trans s1.kp;h N1:=N0.kp kp1 hj;h hcj:c≠j:=λz=>hcb (by rw[z];e L.ge);h hc1:h1[c]? =%4Q:=(s1.2 c hcj).trans hc
   h cont:∀(ks':%r) (k0:UInt8) (cs:Bytes) (h2:%a) (pre2 r2:%g) (x5:&F),cs.length≤4→ks'.length=ks.length+Wf k0.toNat→had<63→(∀k∈ks',64≤k+(had+1))→Kp j h0 h2→h2[c]? =%4Q→LA b h2 j pre2 r2 e→
    Dq ((exZ [%3g,%H,^M,&h(had+1),&h(ks.length+1),x5,%5X(k0::cs)] h2).bind Wh) (Gh T R e ks' (had+1) r2>>= λz=>pure (((k0::cs)++z.1.1,z.1.2),z.2)) (QE r0 j c e h0 b acc):=by
    intro ks' k0 cs h2 pre2 r2 x5 hcs hks2 hlt hkk kp2 hc2 L2;rw[nV hc2 (by s[List.length_cons];omega) %w,B7,←hW];rw[show ks.length+1-1+Wf k0.toNat=ks'.length by omega];r Dq.toP (dD N0 K KT hj hc0 hcb fu ks' (had+1) r2 (acc++(k0::cs)) _ pre2 x5 _ hkk %w %w (by s[List.length_append,List.length_cons];omega) (kp2.bh hc0) (Aq hc2) (L2.FZ hcb)) ?_;intro z q;e q.cons
   h core:∀X,exWords T R e (k+1) had (w::r)=Few had w X→VR R w.w=true→(had<63→Dq ((exT [%3g,%H,^M,&h(had+1),&h(ks.length+1),%4L,x6] h1).bind Wh) (X>>= λy=>Gh T R e ks y.1.2 y.2>>= λz=>pure ((y.1.1.code++z.1.1,z.1.2),z.2)) (QE r0 j c e h0 b acc))→
    Dq ((exB [%3g,%H,^M,&hhad,&h((k+1)::ks).length,x5,x6] h).bind Wh) (Gh T R e ((k+1)::ks) had (w::r)) (QE r0 j c e h0 b acc):=by
    intro X hX hcan hlt;show Dq _ (exWords T R e (k+1) had (w::r)>>= _) _;rw[hX];u Few;h ab:exB=%B5(&E"take"1 Bw 1 Ad)(#G(VI (fB (#v2 DD 0 5)))(AQ "Fault" AF (%1R(#UDt 5)(&E"spot"1 Av 1 Ad))))(&e(#Y(%0u3(&R63))10 1 Av 1 Ad)(SD 3 (oI λi j=>#c) ^T)exT):=rfl;rw[ab];by_cases q:had<63
    ·a5;h hh:=hlt q
     h eq63:%4Thad 63 h1=&1mh1:=by
      c1
     generalize exT=ET at hh ⊢;xm [L.mth,e1,YM N1 ok,hcan,eq63];xm [nW];e hh
    ·R
     h eq63:%4Thad 63 h1=%5dtrue h1:=by
      h:had=63:=%w;s[nW,oEq,this];a
     generalize exT=ET;xm [L.mth,e1,YM N1 ok,hcan,eq63,L1.mth,L1.Fc];a
   by_cases q1:w.w=%7g
   ·r core _ (by rw[Ei K,if_pos q1]) (by u VR;rw[decide_eq_true q1];rfl) λhlt=>?_;h pr:BS [^q,&g,&2t] h1=^n(&S[5]):=by rw[q1];e fG N1
    rw[JC,pr,F6]
    h:=cont (k::ks) 5 [] h1 _ r %4L (by simp) rfl hlt (λx hx=>by
     rcases List.mem_cons.mp hx with z|z
     ·b
     ·e hks' x z) kp1 hc1 L1
    r cast ?_ this;n;s[Gh,AE,pure_bind];a
   rcases GF SK w.w with⟨o,ho,hf,hw,hcn⟩|⟨hf,hcn⟩
   ·h ho9:o<9:=ho
    h hoc:OPS.contains w.w=true:=by
     m5;l;e decide_eq_true #q
    r core _ (by rw[Ei K,&2d,hf]) (by u VR;rw[hoc];s[Bool.true_or,Bool.or_true]) λhlt=>?_;h pr:BS [^q,&g,&2t] h1=^n(&S(%6W(6+o))):=by rw[hw];e m8 ho9
    rw[JC,pr,F6]
    h hop:Wf (UInt8.ofNat (6+o)).toNat=2:=by
     rw[UInt8.toNat_ofNat_of_lt' (show 6+o<256 by omega)];u Wf;rw[if_pos %w]
    h:=cont (k::k::ks) (UInt8.ofNat (6+o)) [] h1 _ r %4L (by simp) (by rw[hop];rfl) hlt (λx hx=>by
     rcases List.mem_cons.mp hx with z|z
     ·b
     ·rcases List.mem_cons.mp z with z|z
      ·b
      ·e hks' x z) kp1 hc1 L1
    r cast ?_ this;n;s[Gh,AE,pure_bind,List.append_assoc,Ex.code,List.cons_append,List.nil_append]
   h hoc:OPS.contains w.w=false:=by
    h:=hcn 0
    rwa[List.drop_zero] at this
   by_cases q3:w.w=&3m
   ·r core _ (by rw[Ei K,&2d,hf];s[if_pos q3];rfl) (cp (by rw[q3];decide+kernel)) λhlt=>?_;rw[JC,LW];I;r %3q(PY (kb:=2) (key:="timer") (d:=r0+5) N1 L1 q1 hoc (by rw[q3];rfl) rfl (Ej L1 N1.tim));x4
    h:[bW 2,&0Q]=Ai (2::[UInt8.ofNat a.1.1]):=by
     h:=K.nti;show _=[bW 2,%7Sa.1.1];rw[CS %w]
    l;e cont ks 2 (%6Wa.1.1) h2 _ a.2 %4L (by simp) rfl hlt hks' &6u ((s2.2 c hcj).trans hc1) L2
   by_cases q4:w.w=&1U
   ·r core _ (by rw[Ei K,&2d,hf];s[if_neg q3,if_pos q4];rfl) (cp (by rw[q4];decide+kernel)) λhlt=>?_;rw[JC,LW];I;r %3q(PY (kb:=3) (key:="mode") (d:=r0+7) N1 L1 q1 hoc (by rw[q4];rfl) rfl (Ej L1 N1.mod));x4
    h:[bW 3,&0Q]=Ai (3::[UInt8.ofNat a.1.1]):=by
     h:=K.nmo;show _=[bW 3,%7Sa.1.1];rw[CS %w]
    l;e cont ks 3 (%6Wa.1.1) h2 _ a.2 %4L (by simp) rfl hlt hks' &6u ((s2.2 c hcj).trans hc1) L2
   by_cases q5:w.w=&1B
   ·r core _ (by rw[Ei K,&2d,hf];s[if_neg q3,&2b,if_pos q5];rfl) (cp (by rw[q5];decide+kernel)) λhlt=>?_;rw[JC,LW];I;r %3q(PY (kb:=4) (key:="switch") (d:=1) N1 L1 q1 hoc (by rw[q5];rfl) rfl (Dr (nm:=Switch.name) (vl:=λs=>%0x) (xs:=T.switches) L1 (&6S1)));rintro a v h2 ⟨v1,rfl,x,w2,hx,rfl,ea,⟨s2,L2,_⟩,el,_⟩;h hxm:x.place≤63:=KT x (List.mem_of_getElem? hx)
    h:[bW 4,nW x.place]=Ai (4::[UInt8.ofNat x.place]):=by
     show _=[bW 4,%7Sx.place];rw[CS %w]
    l;s[hx,Option.map_some,Option.getD_some];e cont ks 4 (%6Wx.place) h2 _ a.2 %4L (by simp) rfl hlt hks' &6u ((s2.2 c hcj).trans hc1) L2
   h hkn:(KN.map λx=>x.1).contains w.w=false:=by
    show([ascii "left",&1U,&1B]:#s).contains w.w=false;s[List.contains_cons,List.contains_nil,Bool.or_false,beq_eq_false_iff_ne.mpr q3,beq_eq_false_iff_ne.mpr q4,beq_eq_false_iff_ne.mpr q5]
   cases hv:&5a with
   |some v=>
    r core _ (by rw[Ei K,&2d,hf];s[if_neg q3,&2b,if_neg q5,hv];rfl) (by u VR;rw[hv];s[Option.isSome_some,Bool.true_or,Bool.or_true]) λhlt=>?_;rw[JC,jt N1 K q1 hoc hkn hv,F6]
    e cont ks 1 (%6Wv) h1 _ r %4L (by simp) rfl hlt hks' kp1 hc1 L1
   |none=>
    cases hi:&1Z with
    |some z=>
     r core _ (by rw[Ei K,&2d,hf];s[if_neg q3,&2b,if_neg q5,hv,hi];rfl) (by u VR;rw[hi];s[Option.isSome_some,Bool.true_or,Bool.or_true]) λhlt=>?_;rw[JC,ju N1 ok q1 hoc hkn hv hi,F6]
     e cont ks 0 (le32 z) h1 _ r %4L (by simp[le32,le]) rfl hlt hks' kp1 hc1 L1
    |none=>
     have hcan:VR R w.w=false:=by
      u VR;rw[decide_eq_false q1,hoc,hkn,hv,hi];a
     h e0:Gh T R e ((k+1)::ks) had (w::r)=%1f(if likeInt w.w=true then 4 else if ^f=true then 6 else 3)w.at_:=by
      show exWords T R e (k+1) had (w::r)>>= _=_;rw[Ei K,&2d,hf];s[if_neg q3,&2b,if_neg q5,hv,hi];a
     rw[e0];xm [exB,L.mth,e1,YM N1 ok,hcan,ee ok,L1.mth,L1.Fc];a
end
section
variable{r0 sh j e:Nat}{T:Table}{B:Book}{R:Rules}{h h':List O}{b:Nat→Prop}{pre l:List Word}
%tiF(N:NE r0 sh T B R h)(K:%5F)(KT:∀s∈T.switches,s.place≤63)(hj:r0+8≤j)(hb:∀i,^C→i<h.length)(L:&k):
 Sim (CP &5o h) (exLine T R e l) (λa v h'=>v=^H∧h'[h.length]? =%5Xa.1.code∧Kp j h h'∧(∃pre',LA b h' j pre' a.2 e)∧a.1.code.length≤315):=by
 h e0:CP &5o h=fin (Hd [%3g,%H,none,none,none,none,none] h):=by u CP;rw[Cg];rfl
 rw[e0,vH];h hcb:¬b h.length:=λz=>Nat.lt_irrefl _ (hb _ z);h LL:=dD (c:=h.length) (b:=b) (e:=e) (h0:=h) N K KT hj %L hcb fuel [64] 0 l [] (h++[.lst %7E]) pre none none (λk hk=>by rw[List.mem_singleton] at hk;omega) #q (by decide) #q Kp.app BX L.app;h om:El [] h=%0T(h++[.lst %7E]):=rfl;h LL:Dq (Dv exC exB fuel [%3g,%H,%P,some #r,%0f1,none,none] (h++[.lst %7E])) (Gh T R e [64] 0 l) (QE r0 j h.length e h b []):=LL;xr [om];u exLine
 h es:Gh T R e [64] 0 l=(exWords T R e (PARTS+1) 0 l>>= λy=>pure ((y.1.1.code,y.1.2),y.2)):=by
  show(exWords T R e 64 0 l>>= _)=_;s[Gh,okE,List.append_nil];a
 rw[es] at LL
 cases hx:exWords T R e (PARTS+1) 0 l with
 |error F=>
  rw[hx] at LL;rw[show Dv exC exB fuel _ _=_ from LL]
  rfl
 |ok y=>
  rw[hx] at LL;o⟨h',pre',x5,x6,er,kp,hc,L',h63,hlen⟩:=LL;rw[er,B7];xr [];r⟨_,h',rfl,rfl,hc,kp,⟨pre',L'⟩,?_⟩;h hlen:(y.1.1.code).length≤5*y.1.2:=hlen;h h63:y.1.2≤63:=h63;show(y.1.1.code).length≤315;b
%tPN{α:Type}{nm:α→Bytes}{xs:#y}{d:Nat}(L:&k)(D:h[d]? =#g(Fp (λx:α×Nat=>nm x.1) (λx=>#S) xs.zipIdx)):
 Sim (Al %9u h) (%1d%4K l) (λa v h'=>v=&0Q∧a.1.1<xs.length∧∃w,a.1.2=w.at_∧Adv b h j pre a.2 e w h'∧l=w::a.2):=by
 h:=Dr (nm:=λx:α×Nat=>nm x.1) (vl:=λx=>#S) (xs:=xs.zipIdx) (d:=d) L D
 h z:xs.zipIdx.map (λx=>nm x.1)=%4K:=by
  h z:=&6i(List.map nm)0 xs;e9;e z
 rw[z] at this;r this.imp ?_;m1;rw[List.getElem?_zipIdx] at hx
 cases hn:xs[a.1.1]? with
 |none=>rw[hn] at hx;c hx
 |some n=>
  rw[hn] at hx;w2
%dEV:&1F:=[(ascii "closed",^c0%8Q),(ascii "opened",^c64%8Q),(ascii "ended",^c128%1h),(ascii "gained",^c144%8S),(ascii "parted",^c152%8S),(ascii "stuck",^c160%8S),(ascii "coin",^c168 .non),(ascii "start",^c169 .non),(ascii "warning",^c170 .non),(ascii "tilt",^c171 .non),(ascii "ball",^c172 .non),(ascii "lost",^c173 .non),(ascii "back",^c174 .non),(ascii "sent",^c192%0w)]
%dEVN:#s:=["closed","opened","ended","gained","parted","stuck","coin","start","warning","tilt","ball","lost","back","sent"].map ascii
%tgq:EVN.Nodup:=by decide+kernel
%taj:EV.map (λx=>x.1)=EVN:=rfl
%tjU(ks:%u)(xs:&1F)(hk:xs.map (λx=>S x.1)=ks):kdS xs=.kd ((ks.zip (xs.map λx=>x.2)).map λp=>(.inr p.1,p.2)):=by
 subst hk;u kdS;n
 induction xs with
 |nil=>rfl
 |cons x xs ih=>s[List.map_cons,List.zip_cons_cons,ih]
%tnY:EV.map (λx=>S x.1)=(["closed","opened","ended","gained","parted","stuck","coin","start","warning","tilt","ball","lost","back","sent"]:%u):=by
 h:EVN.map S=(["closed","opened","ended","gained","parted","stuck","coin","start","warning","tilt","ball","lost","back","sent"]:%u):=by decide+kernel
 rw[←this,←aj,List.map_map];a
%tuF:W.kd [(.inr "closed",(%1I0)),(.inr "opened",(%1I64)),(.inr "ended",(%6n128)),(.inr "gained",(%4d144)),(.inr "parted",(%4d152)),(.inr "stuck",(%4d160)),(.inr "coin",(#l168)),(.inr "start",(#l169)),(.inr "warning",(#l170)),(.inr "tilt",(#l171)),(.inr "ball",(#l172)),(.inr "lost",(#l173)),(.inr "back",(#l174)),(.inr "sent",(&Y192%0w))]=kdS EV:=by
 rw[jU _ _ nY];a
%devT:FS:=(&e(#Y(&l(Up true)2(fC (kdS EV)))3 1 Av 1 Ad)(AU 3 (%6s(&0CEI(kdS EV))))(%B4(^hoIx(&0CEI(kdS EV)))(#G(&l&0N 4%1G)%3U)(Bz (Am (oI λi j=>#c) &J (%4J2 Al 1(%6JBf%0l))))))
%toG:IW=#F2(&E"take"1 Bw 1 Ad)evT:=by
 u IW evT;rw[uF]
%tak{w:Bytes}{base d:Nat}{key:Str}(N:NE r0 sh T B R h)(L:&k)(hf:EV.find? (λx=>x.1==w)=some (w,^cbase^E))(hd:%1N%7F key=%ed):
 evT [%3g,%H,%1K,none,none] h=(Al %9u h).st λv h2=>((oI λi j=>#c) (nW base) v h2).st λx h3=>.rt x h3:=by
 w7;h i1:oIs false ^E .non h=^A:=rfl;generalize hF:Al=F;u evT;rw[hF];generalize hG:(oI λi j=>W.int (i+j))=G;xm [Me,hc,Rr hf,dq,dn,i1,L.mth,N.get hd]
%tnX{w:Bytes}{base:Nat}(hf:EV.find? (λx=>x.1==w)=some (w,^cbase .non)):evT [%3g,%H,%1K,none,none] h=.rt (nW base) h:=by
 w7;h i1:oIs false .non .non h=%4O:=rfl;xm [evT,Me,hc,Rr hf,dq,dn,i1]
%trO{w:Word}(L:%4Rb h j l e)(hc:(EV.map λx=>x.1).contains w.w=false):evT [%3g,%H,%4L,none,none] h=%7r3 w.at_:=by
 xm [evT,Me,hc,L.mth,L.Fc];a
%tjK{a b2:Nat}{h:%a}:(oI λi j=>#c) (nW a) (nW b2) h=%1O(a+b2):=by
 show Res.ok (W.int ((a:Int)+b2)) h=%s(W.int ((a+b2:Nat):Int));rw[show((a+b2:Nat):Int)=(a:Int)+b2 by omega]
%tDq.uD{α:Type}{r:SR}{s:%0K}{Q:α→W→%a→Prop}(h:Dq r s (Dn Q)):Sim (fin r) s Q:=by
 cases s with
 |error F=>rw[show r=_ from h];rfl
 |ok a=>
  have h:Dn Q a r:=h
  cases r with
  |nx σ h'=>e⟨_,_,rfl,h⟩
  |rt v h'=>e⟨_,_,rfl,h⟩
  |exc c fs=>e False.elim h
  |bad=>e False.elim h
%teP(N:NE r0 sh T B R h)(K:%5F)(KT:∀s∈T.switches,s.place≤63)(hde:T.devices.length≤8)(hj:r0+8≤j)(L:&k):
 Sim (GX &5o h) (eventIn T R e l) (λa v h'=>v=nW a.1∧a.1<256∧Lx b h j e a.2 h'):=by
 h e0:GX &5o h=fin (IW [%3g,%H,none,none,none] h):=by u GX;rw[Cg];rfl
 rw[e0,oG];r Dq.uD ?_;u eventIn;h hev:(["closed","opened","ended","gained","parted","stuck","coin","start","warning","tilt","ball","lost","back","sent"].map ascii)=EVN:=rfl;s[hev];generalize hE:evT=E;xm [L.mth];rw[←hE];x1;h N1:=N.kp s1.kp hj;show Dq (evT [%3g,%H,%4L,none,none] h1) _ _;rcases GF gq w.w with⟨i,hi,hf,hw,hcn⟩|⟨hf,hcn⟩
 ·h sw:∀(base:Nat),base≤64→EV.find? (λx=>x.1==w.w)=some (w.w,^cbase%8Q)→Dq (evT [%3g,%H,%4L,none,none] h1) ((%1d(T.switches.map λ(s:Switch)=>s.name)r).map λ(y:(Nat×Nat)×%g)=>(base+((T.switches[y.1.1]?).map λ(s:Switch)=>s.place).getD 0,y.2)) (Dn λa v h'=>v=nW a.1∧a.1<256∧Lx b h j e a.2 h'):=by
   intro base hb hfd;rw[ak N1 L1 hfd (d:=1) rfl,ex_map];r %3q(Dr (nm:=Switch.name) (vl:=λs=>%0x) (xs:=T.switches) L1 (&6S1));rintro a v h2 ⟨x,w2,hx,rfl,ea,⟨s2,L2,_⟩,el2,_⟩;h hxm:x.place≤63:=KT x (List.mem_of_getElem? hx);h e1:((T.switches[a.1.1]?).map λ(s:Switch)=>s.place).getD 0=x.place:=by rw[hx];rfl
   rw[jK,F6];s[e1];r⟨rfl,?_,&4V,_,L2⟩;show base+x.place<256;b
  h ot:∀(base d:Nat) (key:Str) (ns:#s),base+ns.length≤256→EV.find? (λx=>x.1==w.w)=some (w.w,^cbase^E)→%1N%7F key=%ed→Sim (Al %9u h1) (%1dns r) (λa v h'=>v=&0Q∧a.1.1<ns.length∧∃w2,a.1.2=w2.at_∧Adv b h1 j (pre++[w]) a.2 e w2 h'∧r=w2::a.2)→
   Dq (evT [%3g,%H,%4L,none,none] h1) ((%1dns r).map λ(y:(Nat×Nat)×%g)=>(base+y.1.1,y.2)) (Dn λa v h'=>v=nW a.1∧a.1<256∧Lx b h j e a.2 h'):=by
   intro base d key ns hb hfd hk H;rw[ak N1 L1 hfd hk,ex_map];r %3qH;rintro a v h2 ⟨rfl,hlt,w2,ea,⟨s2,L2,_⟩,el2⟩;rw[jK,F6];r⟨rfl,?_,&4V,_,L2⟩;show base+a.1.1<256;b
  h de:Sim (Al [&g,.ref 6] h1) (%1d(T.devices.map λ(d:Device)=>d.name)r) (λa v h'=>v=&0Q∧a.1.1<(T.devices.map λ(d:Device)=>d.name).length∧∃w2,a.1.2=w2.at_∧Adv b h1 j (pre++[w]) a.2 e w2 h'∧r=w2::a.2):=by
   h:=PN (nm:=λd:Device=>d.name) (xs:=T.devices) L1 (&6S6);simpa only[List.length_map] using this
  h pl:∀(base:Nat),base<256→EV.find? (λx=>x.1==w.w)=some (w.w,^cbase .non)→Dq (evT [%3g,%H,%4L,none,none] h1) (pure (base,r):#w(Nat×%g)) (Dn λa v h'=>v=nW a.1∧a.1<256∧Lx b h j e a.2 h'):=by
   intro base hb hfd;rw[nX hfd];e⟨rfl,hb,s1,_,L1⟩
  h hi:i<14:=hi;h k1:=K.nti;h k2:=K.nsi;h hz:i=0∨i=1∨i=2∨i=3∨i=4∨i=5∨i=6∨i=7∨i=8∨i=9∨i=10∨i=11∨i=12∨i=13:=%w;v;rcases hz with z|z|z|z|z|z|z|z|z|z|z|z|z|z<;>subst z<;>rw[hf]
  ·e sw 0 (by decide) (by rw[hw];rfl)
  ·e sw 64 (by decide) (by rw[hw];rfl)
  ·e ot 128 (r0+5) "timer" R.timers %w (by rw[hw];rfl) rfl (Ej L1 N1.tim)
  ·e ot 144 6 "device" _ (by rw[List.length_map];omega) (by rw[hw];rfl) rfl de
  ·e ot 152 6 "device" _ (by rw[List.length_map];omega) (by rw[hw];rfl) rfl de
  ·e ot 160 6 "device" _ (by rw[List.length_map];omega) (by rw[hw];rfl) rfl de
  ·e &1O168
  ·e &1O169
  ·e &1O170
  ·e &1O171
  ·e &1O172
  ·e &1O173
  ·e &1O174
  ·e ot 192 (r0+6) "signal" R.signals %w (by rw[hw];rfl) rfl (Ej L1 N1.sig)
 ·v;rw[hf]
  h hc:(EV.map λx=>x.1).contains w.w=false:=by
   m5;rw[aj];G
  rw[rO L1 hc];a
end
section
variable{r0 sh j e:Nat}{T:Table}{B:Book}{R:Rules}{h h':List O}{b:Nat→Prop}{pre l:List Word}
%dhdF(hd:Handler)(a:Nat):%3S:=[("event",nW hd.event),("mode",&5H),("actions",%N)]
%dhdO(hd:Handler)(a:Nat):O:=.ins "Handler" (hdF hd a)
structure sL(hd:Handler):Prop where
 ev:hd.event<256
 mo:∀m,hd.mode=some m→m<15
%dJw(T:Table)(R:Rules)(e:Nat)(l:%g):#w(Handler×%g):=do
 let v←eventIn T R e l
 if v.2.isEmpty=true then return (⟨v.1,none,[]⟩,[])
 else
  let m←must e "in" v.2
  let x←%1dR.modes m
  return (⟨v.1,some x.1.1,[]⟩,x.2)
%tZ7:handlerWords T R e l=(Jw T R e l>>= λa=>%3h>>= λ_=>pure a.1):=by
 u handlerWords Jw;s[AE];n;funext v;by_cases q:v.2.isEmpty=true
 ·s[if_pos q];a
 ·s[if_neg q,AE,pure_bind]
%tZo{ev m:W}:Cb [^H,ev,m] (h++[.ins "Handler" []])=#t(h++[.ins "Handler" [("event",ev),("mode",m),("actions",&2X)],%M]):=by
 h s1:Fj "event" ev ^H (h++[.ins "Handler" []])=#z(h++[.ins "Handler" [("event",ev)]]):=by
  rw[Eb BX (by simp),HV];a
 h s2:Fj "mode" m ^H (h++[.ins "Handler" [("event",ev)]])=#z(h++[.ins "Handler" [("event",ev),("mode",m)]]):=by
  rw[Eb BX (by simp),HV];a
 h n2:El [] (h++[.ins "Handler" [("event",ev),("mode",m)]])=%D(h.length+1)(h++[.ins "Handler" [("event",ev),("mode",m)],%M]):=by
  o7
 h s3:Fj "actions" &2X ^H (h++[.ins "Handler" [("event",ev),("mode",m)],%M])=#z(h++[.ins "Handler" [("event",ev),("mode",m),("actions",&2X)],%M]):=by
  h6
 xr [Cb,JG,s1,s2,n2,s3]
%tdw{ev m:W}{σ:Sa}{r:FA}{h0:%a}(hr:r σ h0=%s[ev,m]):Cu "Handler" 3 Cb r σ h0=%0T(h++[.ins "Handler" [("event",ev),("mode",m),("actions",&2X)],%M]):=by
 h:∀F:FF,F [^H,ev,m] (h++[.ins "Handler" []])=#t(h++[.ins "Handler" [("event",ev),("mode",m),("actions",&2X)],%M])→Cu "Handler" 3 F r σ h0=%0T(h++[.ins "Handler" [("event",ev),("mode",m),("actions",&2X)],%M]):=by
  j9
 e this _ Zo
%tOG{x y:O}:(h++[x,y])[h.length]? =%v∧(h++[x,y])[h.length+1]? =%4g:=by simp
%dQHd(j e:Nat)(h:%a)(b:Nat→Prop)(a:Handler×%g)(v:W)(h':%a):Prop:=∃k,v=.ref k∧h.length≤k∧h'[k]? =some (hdO a.1 (k+1))∧h'[k+1]? =%V[]∧Kp j h h'∧(∃pre',LA b h' j pre' a.2 e)∧sL a.1∧a.1.deeds=[]
%tZi(N:NE r0 sh T B R h)(K:%5F)(KT:∀s∈T.switches,s.place≤63)(hde:T.devices.length≤8)(hj:r0+8≤j)(L:&k):
 Sim (Fu &5o h) (Jw T R e l) (QHd j e h b):=by
 u Jw;xb [Fu,Of];r %Q(eP N K KT hde hj L);rintro⟨ev,r⟩ v h1 ⟨rfl,hev,s1,pre1,L1⟩;h N1:=N.kp s1.kp hj;xb [L1.mth,L1.more]
 cases r with
 |nil=>
  have hr:(%8N2%5w) [some ^q,%H,&hev] h1=^n[nW ev,#r]:=by xr []
  xb [List.isEmpty_nil,dw hr]
  e⟨_,_,rfl,h1.length,rfl,Nat.le_of_eq s1.1.symm,OG.1,OG.2,s1.kp.trans Kp.app,⟨_,L1.app⟩,⟨hev,λm hm=>by c hm⟩,rfl⟩
 |cons w2 r2=>
  xb [List.isEmpty_cons,L1.mth];r %Q(C5 L1 (s:="in") lit);rintro m v h2 ⟨w3,⟨s2,L2,_⟩,_⟩;h N2:=N1.kp s2.kp hj;h g:Bf ^q %0d h2=%D(r0+7)h2:=N2.get rfl;h hk:=Ej L2 N2.mod
  cases hkn:%1dR.modes m with
  |error F=>
   rw[hkn] at hk;h hk:Al [&g,.ref (r0+7)] h2=&0c:=hk
   h hr:(%4k2(^h(oI λi j=>#c)(%4J2 Al 1(%6JBf&0H)))) [some ^q,%H,&hev] h2=&0c:=by
    xm [g,L2.mth,hk]
   h hm:Cu "Handler" 3 Cb (%4k2(^h(oI λi j=>#c)(%4J2 Al 1(%6JBf&0H)))) [%3g,%H,&hev] h2=&0c:=by
    generalize Cb=G;s[Cu,hr,N9]
   xb [hm]
   rfl
  |ok x=>
   rw[hkn] at hk;o⟨v,h3,ek,rfl,hlt,w4,_,⟨s3,L3,_⟩,_⟩:=hk
   h hr:(%4k2(^h(oI λi j=>#c)(%4J2 Al 1(%6JBf&0H)))) [some ^q,%H,&hev] h2=.ok [nW ev,nW (x.1.1+1)] h3:=by
    h ek:Al [&g,.ref (r0+7)] h2=.ok (.int ((x.1.1:Nat):Int)) h3:=ek;xm [g,L2.mth,ek];a
   xb [dw hr];h:=K.nmo;e⟨_,_,rfl,h3.length,rfl,Nat.le_of_eq (s3.1.trans (s2.1.trans s1.1)).symm,OG.1,OG.2,((s1.kp.trans s2.kp).trans s3.kp).trans Kp.app,⟨_,L3.app⟩,⟨hev,λm hm=>by c hm;omega⟩,rfl⟩
end
%dA7(r0:Nat)(nm ls:W):%3S:=[("table",#I),("name",nm),("last_sort",ls),("counts",&0D),("names",^q),("starts",.ref (r0+8)),("handlers",&3C)]
%dMy(r0:Nat)(nm ls:W)(h:%a):Prop:=h[r0]? =&1jnm
section
variable{r0 sh j e n:Nat}{nm ls:W}{T:Table}{B:Book}{R:Rules}{h h':List O}{b:Nat→Prop}{pre l:List Word}
%tMy.kp(hO:My r0 nm ls h)(k:Kp j h h')(hj:r0+8≤j):My r0 nm ls h':=%5ihO
%tMy.ga{f:Str}{x:W}(hO:My r0 nm ls h)(hf:(A7 r0 nm ls).lookup f=%v):%4Hf h=&0a:=C4 hO hf
%tNE.ga{f:Str}{x:W}(N:NE r0 sh T B R h)(hf:(UM %I.balls %I.drained).lookup f=%v):%4pf h=&0a:=C4 (N.tab 0 (by decide)) hf
%dSd(T:Table)(e:Nat)(held:Bool)(l:%g):#w((Nat×Nat)×%g):=do
 let c←coilWord T e l
 let _←holds (!held||c.1.1.hold != 0) 7 c.1.2
 let t←ticksWord e c.1.1 c.2
 return ((c.1.1.place,t.1),t.2)
%tgF{x y:Coil}{i:Nat}(K:^o)(hx:T.coils[i]? =%v)(hy:y∈T.coils)(hp:y.place=x.place):y=x:=by
 o⟨k,hk,rfl⟩:=List.mem_iff_getElem.mp hy;o⟨hi,hxe⟩:=List.getElem?_eq_some_iff.mp hx;h a:=List.pairwise_iff_getElem.mp K.co;h hl:(T.coils.map λs=>s.place).length=T.coils.length:=by simp
 rcases Nat.lt_trichotomy k i with z|z|z
 ·h:=a k i %w %w z;s[List.getElem_map] at this;rw[hxe] at this;b
 ·y;e hxe
 ·h:=a i k %w %w z;s[List.getElem_map] at this;rw[hxe] at this;b
%tj0{x:Coil}{i:Nat}(K:^o)(hx:T.coils[i]? =%v):(%I.ho.any λy=>y.1==x.place)=(x.hold != 0):=by
 show(((T.coils.filter λc=>c.hold != 0).map λc=>(c.place,c.hold)).any λy=>y.1==x.place)=_;rw[List.any_map,Bool.eq_iff_iff,List.any_eq_true];a6
 ·rintro⟨c,hc,hp⟩;o⟨hm,hh⟩:=List.mem_filter.mp hc;h:=gF K hx hm (by simpa using hp);rw[←this];e hh
 ·intro hh;e⟨x,List.mem_filter.mpr ⟨List.mem_of_getElem? hx,hh⟩,by simp⟩
%dkO:FS:=%B4(%5Y3 AR 1(%6A1 1023))(#Y(&l(oI λi j=>^S)4(Am Bf (AB "mosts" (%X"table")) &J))7 1 Av 1 Ad)(Bz (Am Lg (&1noLst 3) (%3O2 Bs 4(%1D2))))
%tsr:HH=%B3(%4J2 Al 1(Am Bf %0e (%C"coil")))(#Y(Us (fB &j) (&l(Ip true)3(AB "holding" (%X"table"))))7 1 Av 1 Ad)kO:=rfl
%tZk(held:Bool)(TK:^o)(N:NE r0 sh T B R h)(hO:My r0 nm ls h)(hj:r0+8≤j)(L:&k):
 Sim (Dc (%4a(.bl held)) h) (Sd T e held l) (λa v h'=>v=&S(UInt8.ofNat a.1.1::le 2 a.1.2)∧Lx b h j e a.2 h'):=by
 h e0:Dc (%4a(.bl held)) h=fin (HH (%7n%H(some (.bl held))) h):=by u Dc;rw[Cg];rfl
 rw[e0,sr];u Sd coilWord coilNamed;I;h8;h g:Bf ^q &3u h=%D3 h:=N.get rfl;generalize hC:kO=C;xb [gn,g,L.mth];r %Q(Dr (nm:=Coil.name) (vl:=λs=>%0x) (xs:=T.coils) L (N.tab 3 (by decide)));rintro⟨⟨ci,cat⟩,cr⟩ v h1 ⟨x,w1,hx,rfl,ea,⟨s1,L1,_⟩,_,_⟩;h hx':T.coils[ci]? =%v:=hx;h ea:cat=w1.at_:=ea;s[hx',Option.getD_some,ea];h N1:=N.kp s1.kp hj;h O1:=hO.kp s1.kp hj;h gt:%4H"table"h1=%D0 h1:=O1.ga rfl;h gh:%4p"holding"h1=%D5 h1:=N1.ga rfl;h di:=fM (neg:=true) (p:=x.place) (&6S5);rw[j0 TK hx'] at di
 h fin2:Sim (fin (C (%3l%H(some (.bl held))(&hx.place)none) h1))
  (ticksWord e x cr>>= λt=>pure ((x.place,t.1),t.2)) (λa v h'=>v=&S(UInt8.ofNat a.1.1::le 2 a.1.2)∧Lx b h j e a.2 h'):=by
  u ticksWord;I;rw[←hC];h ol:∀h2:%a,oLst &4W h2=.ok (.lst &4W) h2:=λ_=>rfl;xb [kO,L1.mth];r %Q(DN (lo:=1) (hi:=1023) L1 (by decide));u5;h N2:=N1.kp s2.kp hj;h O2:=O1.kp s2.kp hj;h gt:%4H"table"h2=%D0 h2:=O2.ga rfl;h gm:%4p"mosts"h2=%D4 h2:=N2.ga rfl;h dg:=Vg (N2.tab 4 (by decide)) (Xp TK hx');h et:tat=w2.at_:=et;h ht:tv≤1023:=ht;s[et];y5
  h oc:Lg (.lst &4W) (&S(le 2 tv)) h2=.ok (&S(UInt8.ofNat x.place::le 2 tv)) h2:=by
   h:(Ai (le 2 tv)).length=2:=by simp[Ai,le]
   s[Lg,Em,this]
   h:Ai (UInt8.ofNat x.place::le 2 tv)=nW x.place::Ai (le 2 tv):=by
    show %7Sx.place::_=_;rw[CS %w];a
   l;a
  h lt1:(oI λi j=>W.bl (decide (j<i))) (nW tv) (nW x.most) h2=%5d(decide (x.most<tv))h2:=by
   show Res.ok (W.bl (decide ((x.most:Int)<(tv:Int)))) h2=_;by_cases q:x.most<tv
   ·rw[decide_eq_true q,&0g]
   ·rw[decide_eq_false q,&0f]
  generalize(oI λi j=>W.bl (decide (j<i)))=G at lt1 ⊢;by_cases q:tv≤x.most
  ·rw[decide_eq_true q,DZ,okE];xb [gt,gm,dg];h lt2:decide ((x.most:Int)<(tv:Int))=false:=&0f;xb [nW,lt2];h n2:Bs [.int ((tv:Nat):Int),.int 2] h2=.ok (&S(le 2 tv)) h2:=cQ %w;h ol2:oLst [.int ((x.place:Nat):Int)] h2=.ok (.lst &4W) h2:=rfl;xb [ol2,n2,oc];e⟨_,h2,rfl,rfl,&4V,_,L2⟩
  ·rw[decide_eq_false q,EW];xb [gt,gm,dg];h lt2:decide ((x.most:Int)<(tv:Int))=true:=&0g;xb [nW,lt2,L2.mth,L2.Fc];a
 cases held with
 |false=>
  s[Bool.not_false,Bool.true_or,DZ,okE];xb []
  e fin2
 |true=>
  s[Bool.not_true,Bool.false_or]
  cases hh:(x.hold != 0) with
  |false=>
   rw[hh] at di;s[Bool.not_false,if_true] at di;rw[EW];xb [gt,gh,di,L1.mth,L1.Fc]
   rfl
  |true=>
   rw[hh] at di;s[Bool.not_true,if_true] at di;rw[DZ,okE];xb [gt,gh,di];e fin2
end
section
variable{r0 sh j e n:Nat}{nm ls:W}{T:Table}{B:Book}{R:Rules}{h h':List O}{b:Nat→Prop}{pre l:List Word}
%dBQ(j e:Nat)(h:%a)(b:Nat→Prop)(cs:Bytes)(r:%g)(v:W)(h':%a):Prop:=Em v h'=some (Ai cs)∧Kp j h h'∧(∃pre',LA b h' j pre' r e)∧cs.length≤315
%tcu(N:NE r0 sh T B R h)(K:%5F)(TK:^o)(hO:My r0 nm ls h)(hj:r0+8≤j)(hb:∀i,^C→i<h.length)(L:&k):Sim (A8 (%4a%8R) h) (exLine T R e l) (λa v h'=>BQ j e h b a.1.code a.2 v h'):=by
 h8;h i1:#D%8R%8R h=%4O:=by simp[oEq]
 h H:=iF N K TK.msw hj hb L;xb [A8,DF,i1,gn]
 cases hs:exLine T R e l with
 |error F=>
  rw[hs] at H
  rw[show CP _ h=_ from H];rfl
 |ok a=>
  rw[hs] at H;o⟨v,h',ev,rfl,hc,kp,L',hl⟩:=H;rw[ev];e⟨_,h',rfl,by s[Em,hc],kp,L',hl⟩
%tXy(hO:My r0 nm ls h)(L:&k):Sim (A8 (%4a%5l) h) (levelWord e l) (λa v h'=>BQ j e h b (%6Wa.1) a.2 v h'∧a.1≤15):=by
 h i1:#D%5l%8R h=^A:=rfl;h i2:#D%5l%5l h=%4O:=by simp[oEq]
 u levelWord;xb [A8,DF,i1,i2,L.mth];r %Q(DN (lo:=0) (hi:=15) L (by decide));u5;h ht:tv≤15:=ht;h ol:oLst [nW tv] h2=.ok (.lst [nW tv]) h2:=rfl;xb [ol];r⟨_,h2,rfl,⟨?_,s2.kp,⟨_,L2⟩,by simp⟩,ht⟩;show some [nW tv]=some [%7Stv];rw[CS %w]
%tgM(TK:^o)(N:NE r0 sh T B R h)(hO:My r0 nm ls h)(hj:r0+8≤j)(L:&k):Sim (A8 (%4a&0x) h) (Sd T e false l) (λa v h'=>BQ j e h b (UInt8.ofNat a.1.1::le 2 a.1.2) a.2 v h'):=by
 h i1:#D&0x%8R h=^A:=rfl;h i2:#D&0x%5l h=^A:=rfl;h i3:#D&0x&0x h=%4O:=by simp[oEq]
 h i4:#D&0x&0A h=^A:=rfl;h H:=Zk false TK N hO hj L;xb [A8,DF,i1,i2,i3,i4]
 cases hs:Sd T e false l with
 |error F=>
  rw[hs] at H
  rw[show Dc _ h=_ from H];rfl
 |ok a=>
  rw[hs] at H;o⟨v,h',ev,rfl,s1,pre',L'⟩:=H;y9
%tkX(TK:^o)(N:NE r0 sh T B R h)(hO:My r0 nm ls h)(hj:r0+8≤j)(L:&k):Sim (A8 (%4a&0A) h) (Sd T e true l) (λa v h'=>BQ j e h b (UInt8.ofNat a.1.1::le 2 a.1.2) a.2 v h'):=by
 h i1:#D&0A%8R h=^A:=rfl;h i2:#D&0A%5l h=^A:=rfl;h i3:#D&0A&0x h=^A:=rfl;h i4:#D&0A&0A h=%4O:=by simp[oEq]
 h H:=Zk true TK N hO hj L;xb [A8,DF,i1,i2,i3,i4]
 cases hs:Sd T e true l with
 |error F=>
  rw[hs] at H
  rw[show Dc _ h=_ from H];rfl
 |ok a=>
  rw[hs] at H;o⟨v,h',ev,rfl,s1,pre',L'⟩:=H;y9
%tEE{α:Type}{s:%0K}{vf:α→Nat}{rf:α→%g}{key:Str}{d:Nat}(N:NE r0 sh T B R h)(hO:My r0 nm ls h)(L:&k)(hd:%1N%7F key=%ed)
 (i1:#D^E%8R h=^A) (i2:#D^E%5l h=^A) (i3:#D^E&0x h=^A) (i4:#D^E&0A h=^A)
 (H:Sim (Al %9u h) s (λa v h'=>v=nW (vf a)∧vf a<256∧Lx b h j e (rf a) h')):Sim (A8 &0L h) s (λa v h'=>BQ j e h b (%6W(vf a)) (rf a) v h'):=by
 h8;xb [A8,DF,i1,i2,i3,i4,gn,N.get hd,L.mth]
 cases s with
 |error F=>rw[show Al _ h=_ from H];rfl
 |ok a=>
  o⟨v,h',ev,rfl,hlt,s1,pre',L'⟩:=H;h ol:oLst [nW (vf a)] h'=^O(.lst [nW (vf a)]):=rfl;rw[ev,A3,ol];r⟨_,h',rfl,?_,s1.kp,⟨_,L'⟩,by simp⟩;show some [nW (vf a)]=some [%7S(vf a)];rw[CS hlt]
%tZf(N:NE r0 sh T B R h)(K:%5F)(L:&k):Sim (Al [&g,&3A] h) (varWord R e l) (λa v h'=>v=nW a.1∧a.1<256∧Lx b h j e a.2 h'):=by
 h H:=Dr (nm:=λx:Var×Nat=>x.1.name) (vl:=λx=>#S) (xs:=%3z) L N.var;u varWord
 cases l with
 |nil=>e H
 |cons w r=>
  g2;h H:Sim (Al [&g,&3A] h) (if ^f=false then _ else _) _:=H;by_cases q:^f=false
  ·rw[if_pos q] at H ⊢;e H
  ·rw[if_neg q] at H ⊢
   h key:&5a=((%3z.map λx=>x.1.name).findIdx? λn=>n==w.w).bind λi=>(%3z[i]?).map λx=>x.2:=by
    rw[LR,List.findIdx?_map];generalize Er R=xs
    induction xs with
    |nil=>rfl
    |cons x xs ih=>
     rw[List.find?_cons,List.findIdx?_cons];d1;by_cases z:(x.1.name==w.w)=true
     ·s[z,if_true];a
     ·h z:(x.1.name==w.w)=false:=Bool.eq_false_iff.mpr z;s[z,Bool.false_eq_true,if_false];rw[ih];cases List.findIdx? ((λn=>n==w.w)∘λx:Var×Nat=>x.1.name) xs<;>rfl
   cases hf:(%3z.map λx=>x.1.name).findIdx? λn=>n==w.w with
   |none=>
    rw[hf] at H key;h key:&5a=none:=key;rw[key]
    e H
   |some i=>
    rw[hf] at H key;o⟨v,h',ev,x,w1,hx,rfl,_,⟨s1,L1,_⟩,el,_⟩:=H;h hx:%3z[i]? =%v:=hx;h key:&5a=some x.2:=by rw[key];s[Option.bind_some,hx,Option.map_some]
    s[key];h:=(PH K key).2;r⟨_,h',ev,rfl,?_,s1,_,L1⟩;show x.2<256;b
end
%dAC:&1F:=[(ascii "score",%5A0"expression"),(ascii "set",^c1&3J),(ascii "fire",%5A2"fired"),(ascii "hold",%5A3"held"),(ascii "release",%5A4"coil"),(ascii "show",^c5(%4t&3s%5l)),(ascii "hide",%5A6"level"),(ascii "light",%5A7"lamp"),(ascii "dark",%5A8"lamp"),(ascii "begin",%5A9"mode"),(ascii "finish",%5A10"mode"),(ascii "run",^c11&3N),(ascii "halt",%5A12"timer"),(ascii "send",%5A13"signal"),(ascii "eject",%5A14"device"),(ascii "stop",^c15&2s)]
%dACN:#s:=["score","set","fire","hold","release","show","hide","light","dark","begin","finish","run","halt","send","eject","stop"].map ascii
%tgS:ACN.Nodup:=by decide+kernel
%taI:AC.map (λx=>x.1)=ACN:=rfl
%toQ:AC.map (λx=>S x.1)=(["score","set","fire","hold","release","show","hide","light","dark","begin","finish","run","halt","send","eject","stop"]:%u):=by
 h:ACN.map S=(["score","set","fire","hold","release","show","hide","light","dark","begin","finish","run","halt","send","eject","stop"]:%u):=by decide+kernel
 rw[←this,←aI,List.map_map];a
%tuO:W.kd [(.inr "score",(&5c0)),(.inr "set",(&Y1&3J)),(.inr "fire",(&T2"fired")),(.inr "hold",(&T3"held")),(.inr "release",(&T4"coil")),(.inr "show",(&Y5(%4t&3s%5l))),(.inr "hide",(&T6"level")),(.inr "light",(%8p7)),(.inr "dark",(%8p8)),(.inr "begin",(%8r9)),(.inr "finish",(%8r10)),(.inr "run",(&Y11&3N)),(.inr "halt",(&T12"timer")),(.inr "send",(&T13"signal")),(.inr "eject",(&T14"device")),(.inr "stop",(&Y15&2s))]=kdS AC:=by
 rw[jU _ _ oQ];a
%dacB:FS:=&0oB9&J(%1c3 A8 0 1 4)
%dacT:FS:=Ag (#Y(&l(Up true)2(fC (kdS AC)))3 1 Av 1 Ad) (%B3(%1AEl(%6s(&0CEI(kdS AC))))(%0P(iT (^hoIx(&0CEI(kdS AC))))4 acB)%3U)
%tkZ:HP=#F2(&E"take"1 Bw 1 Ad)acT:=by
 u HP acT;rw[uO];a
section
variable{r0 sh j e n:Nat}{nm ls:W}{T:Table}{B:Book}{R:Rules}{h h':List O}{b:Nat→Prop}{pre l:List Word}
%ditT(ks:%m):Nat→%a→%9e:=λi _=>some ks[i]?
%tcB{w:Bytes}{k:Nat}{ks:%m}(hf:&5S=some (w,^ck(.ktp ks))):acT &5p h=(Di (itT ks) &0b acB ks.length 0 (%3l%H%1K%P none) (h++[.lst [nW k]])).bind %3U:=by
 h hc:(AC.map λx=>x.1).contains w=true:=by rw[←&5L,hf];rfl
 h om:El [nW k] h=%0T(h++[.lst [nW k]]):=rfl;h it:D4 (.ktp ks)=some ks:=rfl
 h e1:acT &5p h=(Et (iT (^hoIx(&0CEI(kdS AC)))) &0b acB (%3l%H%1K%P none) (h++[.lst [nW k]])).bind %3U:=by
  u acT;generalize(%0P(iT (^hoIx(&0CEI(kdS AC))))4 acB)=F;generalize hr:%3U=Rt;xr [Me,hc,Rr hf,dq,om]
 A;generalize hr:%3U=Rt;generalize acB=A;xr [Et,iT,Rr hf,dn,it];a
%tsH{w:Word}(L:%4Rb h j l e)(hc:(AC.map λx=>x.1).contains w.w=false):acT &5t h=%7r3 w.at_:=by
 xm [acT,Me,hc,L.mth,L.Fc];a
%tIY{c:Nat}{v:W}{acc cs:Bytes}(hc:h[c]? =%4Q)(hv:Em v h=some (Ai cs))(hl:acc.length+cs.length≤16777216):B9 c [v] h=#t(%1Ec(acc++cs)):=by
 p1;s[B9,hc,hv,&4U,ba]
%dQS(r0 j e c:Nat)(x2:&F)(a:Str)(h0:%a)(b:Nat→Prop)(acc cs:Bytes)(r:%g)(x:SR):Prop:=∃h',x=.nx (%3l%H x2^M(some %0j)) h'∧Kp j h0 h'∧h'[c]? =%5X(acc++cs)∧(∃pre',LA b h' j pre' r e)∧cs.length≤315
%tVS{α:Type}{s:%0K}{cf:α→Bytes}{rf:α→%g}{a:Str}{h0 hc:%a}{c:Nat}{acc:Bytes}{x2:&F}(H:Sim (A8 (%4a%0j) hc) s (λa v h'=>BQ j e hc b (cf a) (rf a) v h'))(kp:Kp j h0 hc)(hcc:hc[c]? =%4Q)(hcl:h0.length≤c)(hcb:¬b c)(hcj:c≠j)(hacc:acc.length≤400):
 Dq (acB (%3l%H x2^M(some %0j)) hc) s (λx r=>QS r0 j e c x2 a h0 b acc (cf x) (rf x) r):=by
 xr [acB,fLM,hcc];r Sim.stP H ?_;rintro x v h1 ⟨hv,kp1,⟨pre',L1⟩,hl⟩;h hc1:h1[c]? =%4Q:=kp1.get hcj hcc;rw[IY hc1 hv %w,F6];e⟨_,rfl,(kp.trans kp1).bh hcl,Aq hc1,⟨pre',L1.FZ hcb⟩,hl⟩
%dQA(j e:Nat)(h:%a)(b:Nat→Prop)(a:Tilt.Act×%g)(v:W)(h':%a):Prop:=v=^H∧h'[h.length]? =%5Xa.1.code∧Kp j h h'∧(∃pre',LA b h' j pre' a.2 e)∧a.1.code.length≤640
%tcy{k:Nat}(hk:k<256):[nW k]=Ai (%6Wk):=by
 show[nW k]=[bW (UInt8.ofNat k)];rw[CS hk]
%tlr{w:Bytes}{k:Nat}{a:Tilt.Act}(hf:&5S=some (w,^ck&2s))(hk:k<256)(hcode:a.code=[UInt8.ofNat k])(L:&k):
 Dq (acT &5p h) (pure (a,l)) (Dn (QA j e h b)):=by
 rw[cB hf,List.length_nil,D5 rfl,B7];show QA j e h b (a,l) ^H (h++[.lst [nW k]]);r⟨rfl,?_,Kp.app,⟨pre,L.app⟩,?_⟩
 ·rw[BX,cy hk,hcode]
 ·rw[hcode];i
%tGk{α:Type}{s:%0K}{cf:α→Bytes}{rf:α→%g}{g:α→Tilt.Act}{w:Bytes}{k:Nat}{a:Str}(hf:&5S=some (w,%5Ak a))(hk:k<256)(hb:∀i,^C→i<h.length)(hj:j<h.length)(hcode:∀x,(g x).code=UInt8.ofNat k::cf x)
 (H:Sim (A8 (%4a%0j) (h++[.lst [nW k]])) s (λa v h'=>BQ j e (h++[.lst [nW k]]) b (cf a) (rf a) v h')):
 Dq (acT &5p h) (s>>= λx=>pure (g x,rf x)) (Dn (QA j e h b)):=by
 rw[cB hf,List.length_cons,List.length_nil,Cv (x:=%0j) (σ2:=[some #f,%H,%1K,%P,some %0j]) rfl rfl];o1
 cases s with
 |error F=>
  rw[show acB _ _=_ from st];rfl
 |ok x=>
  o⟨h',er,kp,hc,L',hl⟩:=st;rw[show acB _ _=_ from er,B7,D5 rfl,B7];show QA j e h b (g x,rf x) ^H h';r⟨rfl,?_,kp,L',?_⟩
  ·rw[hc];show _=some (O.lst (Ai (g x).code));rw[hcode];a
  ·show(g x).code.length≤640;rw[hcode];i;b
%tYV{α β:Type}{s:%0K}{s2:α→#wβ}{cf:α→Bytes}{rf:α→%g}{cf2:α→β→Bytes}{rf2:α→β→%g}{g:α→β→Tilt.Act}{w:Bytes}{k:Nat}{a a2:Str}(hf:&5S=some (w,^ck(%4t%0j(.str a2))))(hk:k<256)(hb:∀i,^C→i<h.length)(hj:j<h.length)(hcode:∀x y,(g x y).code=UInt8.ofNat k::(cf x++cf2 x y))
 (H:Sim (A8 (%4a%0j) (h++[.lst [nW k]])) s (λa v h'=>BQ j e (h++[.lst [nW k]]) b (cf a) (rf a) v h'))
 (H2:∀x hc pre',Kp j h hc→LA b hc j pre' (rf x) e→Sim (A8 (%4a(.str a2)) hc) (s2 x) (λa v h'=>BQ j e hc b (cf2 x a) (rf2 x a) v h')):
 Dq (acT &5p h) (s>>= λx=>s2 x>>= λy=>pure (g x y,rf2 x y)) (Dn (QA j e h b)):=by
 rw[cB hf,List.length_cons,List.length_cons,List.length_nil,Cv (x:=%0j) (σ2:=[some #f,%H,%1K,%P,some %0j]) rfl rfl];o1
 cases s with
 |error F=>
  rw[show acB _ _=_ from st];rfl
 |ok x=>
  o⟨h1,er,kp,hc,⟨pre1,L1⟩,hl⟩:=st;rw[show acB _ _=_ from er,B7,Cv (x:=.str a2) (σ2:=[some #f,%H,%1K,%P,some (.str a2)]) rfl rfl];h st2:=VS (h0:=h) (c:=h.length) (x2:=%1K) (acc:=[UInt8.ofNat k]++cf x) (H2 x h1 pre1 kp L1) kp hc %L hcb (Nat.ne_of_gt hj) (by simp;omega);rw[okE]
  cases hs2:s2 x with
  |error F=>
   rw[hs2] at st2
   rw[show acB _ _=_ from st2];rfl
  |ok y=>
   rw[hs2] at st2;o⟨h2,er2,kp2,hc2,L2,hl2⟩:=st2;rw[show acB _ _=_ from er2,B7,D5 rfl,B7];show QA j e h b (g x y,rf2 x y) ^H h2;r⟨rfl,?_,kp2,L2,?_⟩
   ·rw[hc2];show _=some (O.lst (Ai (g x y).code));rw[hcode];a
   ·show(g x y).code.length≤640;rw[hcode];i;b
end
%dgR(T:Table)(B:Book)(R:Rules)(e:Nat)(l:%g):#w(Tilt.Act×%g):=next e l>>= λx=>match ACN.findIdx? λn=>n==x.1.w with
 |some 0=>exLine T R e x.2>>= λz=>pure (.score z.1,z.2)
 |some 1=>varWord R e x.2>>= λv=>exLine T R e v.2>>= λz=>pure (.set v.1 z.1,z.2)
 |some 2=>Sd T e false x.2>>= λt=>pure (.fire t.1.1 t.1.2,t.2)
 |some 3=>Sd T e true x.2>>= λt=>pure (.hold t.1.1 t.1.2,t.2)
 |some 4=>coilWord T e x.2>>= λc=>pure (.release c.1.1.place,c.2)
 |some 5=>%1d(B.map λ(y:Show)=>y.name)x.2>>= λs=>levelWord e s.2>>= λn=>pure (.show_ s.1.1 n.1,n.2)
 |some 6=>levelWord e x.2>>= λn=>pure (.hide n.1,n.2)
 |some 7=>lampWord T e x.2>>= λp=>pure (.light p.1,p.2)
 |some 8=>lampWord T e x.2>>= λp=>pure (.dark p.1,p.2)
 |some 9=>%1dR.modes x.2>>= λm=>pure (.begin_ m.1.1,m.2)
 |some 10=>%1dR.modes x.2>>= λm=>pure (.finish m.1.1,m.2)
 |some 11=>%1dR.timers x.2>>= λt=>exLine T R e t.2>>= λz=>pure (.run t.1.1 z.1,z.2)
 |some 12=>%1dR.timers x.2>>= λt=>pure (.halt t.1.1,t.2)
 |some 13=>%1dR.signals x.2>>= λs=>pure (.send s.1.1,s.2)
 |some 14=>%1d(T.devices.map λ(y:Device)=>y.name)x.2>>= λd=>pure (.eject d.1.1,d.2)
 |some 15=>pure (.halt_,x.2)
 |_=>&2w3
%tuf{i:Nat}(h:i<16):i=0∨i=1∨i=2∨i=3∨i=4∨i=5∨i=6∨i=7∨i=8∨i=9∨i=10∨i=11∨i=12∨i=13∨i=14∨i=15:=%w
%td5{T:Table}{B:Book}{R:Rules}{e:Nat}{l:%g}:actWords T B R e l=(gR T B R e l>>= λz=>closed z.2>>= λ_=>pure z.1):=by
 u actWords gR;rw[AE];n;funext x;h hl:(["score","set","fire","hold","release","show","hide","light","dark","begin","finish","run","halt","send","eject","stop"].map ascii)=ACN:=rfl;s[hl,ex_map]
 cases ACN.findIdx? λn=>n==x.1.w with
 |none=>rfl
 |some i=>
  by_cases hi:i<16
  ·rcases uf hi with z|z|z|z|z|z|z|z|z|z|z|z|z|z|z|z<;>subst z<;>s[AE,pure_bind,Sd,Bool.not_false,Bool.true_or,DZ,okE,Bool.not_true,Bool.false_or]
  ·obtain⟨k,rfl⟩:∃k,i=k+16:=⟨i-16,%w⟩;a
section
variable{r0 sh j e n:Nat}{nm ls:W}{T:Table}{B:Book}{R:Rules}{h h':List O}{b:Nat→Prop}{pre l:List Word}
%tkI{d m:Nat}{s:#w((Nat×Nat)×%g)}(H:Sim (Al %9u h) s (λa v h'=>v=&0Q∧a.1.1<m∧∃w,a.1.2=w.at_∧Adv b h j pre a.2 e w h'∧l=w::a.2))(hm:m≤256):
 Sim (Al %9u h) s (λa v h'=>v=nW ((λa:(Nat×Nat)×%g=>a.1.1) a)∧(λa:(Nat×Nat)×%g=>a.1.1) a<256∧Lx b h j e ((λa:(Nat×Nat)×%g=>a.2) a) h'):=H.imp λa v h' ⟨q1,q2,w,_,A,_⟩=>⟨q1,Nat.lt_of_lt_of_le q2 hm,A.lx⟩
%tum(TK:^o)(N:NE r0 sh T B R h)(L:&k):Sim (Al [&g,.ref 3] h) (coilWord T e l) (λa v h'=>v=nW ((λa:(Coil×Nat)×%g=>a.1.1.place) a)∧(λa:(Coil×Nat)×%g=>a.1.1.place) a<256∧Lx b h j e ((λa:(Coil×Nat)×%g=>a.2) a) h'):=by
 u coilWord coilNamed;r(Dr (nm:=Coil.name) (vl:=λs=>%0x) (xs:=T.coils) L (N.tab 3 (by decide))).toPure ?_;rintro a v h1 ⟨x,w1,hx,rfl,ea,A,_,_⟩;h hx':T.coils[a.1.1]? =%v:=hx;y5;s[hx',Option.getD_some];e⟨trivial,%w,A.lx⟩
%tpJ(TK:^o)(N:NE r0 sh T B R h)(L:&k):Sim (Al [&g,%7y] h) (lampWord T e l) (λa v h'=>v=nW ((λa:Nat×%g=>a.1) a)∧(λa:Nat×%g=>a.1) a<256∧Lx b h j e ((λa:Nat×%g=>a.2) a) h'):=by
 u lampWord;r(Dr (nm:=Lamp.name) (vl:=λs=>%0x) (xs:=T.lamps) L (N.tab 2 (by decide))).toPure ?_;rintro a v h1 ⟨x,w1,hx,rfl,ea,A,_,_⟩;h hx':T.lamps[a.1.1]? =%v:=hx;h hp:x.place≤63:=TK.mla x (List.mem_of_getElem? hx');s[hx',Option.map_some,Option.getD_some];e⟨trivial,%w,A.lx⟩
%tUT(N:NE r0 sh T B R h)(K:%5F)(TK:^o)(hB:B.length≤32)(hO:My r0 nm ls h)(hj:r0+8≤j)(hb:∀i,^C→i<h.length)(L:&k):
 Sim (En %9q h) (gR T B R e l) (QA j e h b):=by
 h e0:En %9q h=fin (HP (%7n%H none) h):=by u En;rw[Cg];rfl
 rw[e0,kZ];r Dq.uD ?_;u gR;generalize hE:acT=E;xm [L.mth];rw[←hE];x1;show Dq (acT &5t h1) _ _
 h conv:∀{s:#w(Tilt.Act×%g)},Dq (acT &5t h1) s (Dn (QA j e h1 b))→Dq (acT &5t h1) s (Dn (QA j e h b)):=by
  intro s q
  cases s with
  |error F=>e q
  |ok a=>
   have q:Dn (QA j e h1 b) a _:=q;show Dn (QA j e h b) a _
   h cv:∀{v:W} {h':%a},QA j e h1 b a v h'→QA j e h b a v h':=by
    rintro v h' ⟨q1,q2,q3,q4,q5⟩;rw[s1.1] at q1 q2;e⟨q1,q2,s1.kp.trans q3,q4,q5⟩
   cases hr:acT &5t h1 with
   |nx σ h'=>rw[hr] at q;e cv q
   |rt v h'=>rw[hr] at q;e cv q
   |exc c fs=>rw[hr] at q;e q
   |bad=>rw[hr] at q;e q
 r conv ?_;h hb1:∀i,^C→i<h1.length:=λi hi=>by rw[s1.1];e hb i hi
 h hj1:j<h1.length:=L1.lt;h Nk:∀{h2:%a},Kp j h1 h2→NE r0 sh T B R h2:=λk=>N.kp (s1.kp.trans k) hj;h Ok:∀{h2:%a},Kp j h1 h2→My r0 nm ls h2:=λk=>hO.kp (s1.kp.trans k) hj;h hbk:∀{h2:%a},Kp j h1 h2→∀i,^C→i<h2.length:=λk i hi=>Nat.lt_of_lt_of_le (hb1 i hi) k.1;h k1:=K.nti;h k2:=K.nsi;h k3:=K.nmo;h k4:=TK.nde;v;rcases GF gS w.w with⟨i,hi,hf,hw,hcn⟩|⟨hf,hcn⟩
 ·h hi:i<16:=hi;rcases uf hi with z|z|z|z|z|z|z|z|z|z|z|z|z|z|z|z<;>subst z<;>rw[hf]
  ·e Gk (g:=λz:Ex×%g=>.score z.1) (k:=0) (by rw[hw];rfl) (by decide) hb1 hj1 (λ_=>rfl) (cu ^v K TK %4b hj (hbk .app) L1.app)
  ·e YV (g:=λ(v:Nat×%g) (z:Ex×%g)=>.set v.1 z.1) (k:=1) (by rw[hw];rfl) (by decide) hb1 hj1 (λ_ _=>rfl) (EE (vf:=λa:Nat×%g=>a.1) (rf:=λa=>a.2) (d:=r0+4) ^v %4b L1.app rfl rfl rfl rfl rfl (Zf ^v K L1.app)) (λx hc pre' kp L'=>cu (Nk kp) K TK (Ok kp) hj (hbk kp) L')
  ·e Gk (g:=λz:(Nat×Nat)×%g=>.fire z.1.1 z.1.2) (k:=2) (by rw[hw];rfl) (by decide) hb1 hj1 (λ_=>rfl) (gM TK ^v %4b hj L1.app)
  ·e Gk (g:=λz:(Nat×Nat)×%g=>.hold z.1.1 z.1.2) (k:=3) (by rw[hw];rfl) (by decide) hb1 hj1 (λ_=>rfl) (kX TK ^v %4b hj L1.app)
  ·e Gk (g:=λz:(Coil×Nat)×%g=>.release z.1.1.place) (k:=4) (by rw[hw];rfl) (by decide) hb1 hj1 (λ_=>rfl) (EE (d:=3) ^v %4b L1.app rfl rfl rfl rfl rfl (um TK ^v L1.app))
  ·r YV (g:=λ(v:(Nat×Nat)×%g) (z:Nat×%g)=>.show_ v.1.1 z.1) (cf2:=λ_ z=>le 1 z.1) (k:=5) (by rw[hw];rfl) (by decide) hb1 hj1 (λ_ _=>rfl) (EE (d:=sh) ^v %4b L1.app rfl rfl rfl rfl rfl (kI (m:=B.length) (PN (nm:=λy:Show=>y.name) (xs:=B) L1.app ^v.shw) %w)) (λx hc pre' kp L'=>(Xy (Ok kp) L').imp ?_);rintro a v h' ⟨q,hl⟩
   h:le 1 a.1=[UInt8.ofNat a.1]:=by
    show[UInt8.ofNat (a.1/256^0%256)]=_;rw[Nat.pow_zero,Nat.div_one,Nat.mod_eq_of_lt %w]
   l;e q
  ·e Gk (g:=λz:Nat×%g=>.hide z.1) (k:=6) (by rw[hw];rfl) (by decide) hb1 hj1 (λ_=>rfl) ((Xy %4b L1.app).imp λa v h' q=>q.1)
  ·e Gk (g:=λz:Nat×%g=>.light z.1) (k:=7) (by rw[hw];rfl) (by decide) hb1 hj1 (λ_=>rfl) (EE (d:=2) ^v %4b L1.app rfl rfl rfl rfl rfl (pJ TK ^v L1.app))
  ·e Gk (g:=λz:Nat×%g=>.dark z.1) (k:=8) (by rw[hw];rfl) (by decide) hb1 hj1 (λ_=>rfl) (EE (d:=2) ^v %4b L1.app rfl rfl rfl rfl rfl (pJ TK ^v L1.app))
  ·e Gk (g:=λz:(Nat×Nat)×%g=>.begin_ z.1.1) (k:=9) (by rw[hw];rfl) (by decide) hb1 hj1 (λ_=>rfl) (EE (d:=r0+7) ^v %4b L1.app rfl rfl rfl rfl rfl (kI (Ej L1.app ^v.mod) %w))
  ·e Gk (g:=λz:(Nat×Nat)×%g=>.finish z.1.1) (k:=10) (by rw[hw];rfl) (by decide) hb1 hj1 (λ_=>rfl) (EE (d:=r0+7) ^v %4b L1.app rfl rfl rfl rfl rfl (kI (Ej L1.app ^v.mod) %w))
  ·e YV (g:=λ(v:(Nat×Nat)×%g) (z:Ex×%g)=>.run v.1.1 z.1) (k:=11) (by rw[hw];rfl) (by decide) hb1 hj1 (λ_ _=>rfl) (EE (d:=r0+5) ^v %4b L1.app rfl rfl rfl rfl rfl (kI (Ej L1.app ^v.tim) %w)) (λx hc pre' kp L'=>cu (Nk kp) K TK (Ok kp) hj (hbk kp) L')
  ·e Gk (g:=λz:(Nat×Nat)×%g=>.halt z.1.1) (k:=12) (by rw[hw];rfl) (by decide) hb1 hj1 (λ_=>rfl) (EE (d:=r0+5) ^v %4b L1.app rfl rfl rfl rfl rfl (kI (Ej L1.app ^v.tim) %w))
  ·e Gk (g:=λz:(Nat×Nat)×%g=>.send z.1.1) (k:=13) (by rw[hw];rfl) (by decide) hb1 hj1 (λ_=>rfl) (EE (d:=r0+6) ^v %4b L1.app rfl rfl rfl rfl rfl (kI (Ej L1.app ^v.sig) %w))
  ·e Gk (g:=λz:(Nat×Nat)×%g=>.eject z.1.1) (k:=14) (by rw[hw];rfl) (by decide) hb1 hj1 (λ_=>rfl) (EE (d:=6) ^v %4b L1.app rfl rfl rfl rfl rfl (kI (m:=T.devices.length) (PN (nm:=λy:Device=>y.name) (xs:=T.devices) L1.app (^v.tab 6 (by decide))) %w))
  ·e lr (k:=15) (by rw[hw];rfl) (by decide) rfl L1
 ·rw[hf]
  h hc:(AC.map λx=>x.1).contains w.w=false:=by
   m5;rw[aI];G
  rw[sH L1 hc];a
end
%tXA{α:Type}{xs:#y}:atI xs (-1)=xs.getLast?:=by
 u atI ixN;e7
 cases xs with
 |nil=>simp
 |cons x r=>
  rw[if_pos (by simp;omega)];h:(-1+(((x::r)).length:Int)).toNat=r.length:=by s[List.length_cons];omega
  rw[this,Option.bind_some,List.getLast?_eq_getElem?];i
%ddW(d:Deed):W:=&Sd.code
%dHL(h:%a)(qs:%r)(hs:&4R):Prop:=qs.length=hs.length∧∀(i q:Nat) (hd:Handler),qs[i]? =%6w→hs[i]? =some hd→h[q]? =some (hdO hd (q+1))∧h[q+1]? =%V&6v
%dRS7:#s:=["rules","var","mine","timer","signal","mode","on"].map ascii
%dCG(c:Nat)(R:Rules):&u:=[(.inr "rules",nW c),(.inr "var",nW R.vars.length),(.inr "mine",nW R.mines.length),(.inr "timer",nW R.timers.length),(.inr "signal",nW R.signals.length),(.inr "mode",nW R.modes.length),(.inr "on",nW R.handlers.length)]
structure HOk(hd:Handler):Prop extends sL hd where
 nd:hd.deeds.length≤32
 dl:∀d∈hd.deeds,d.code.length≤1000
structure RG(r0 sh:Nat)(T:Table)(B:Book)(SP:O)(m c:Nat)(nm ls:W)(R:Rules)(h:%a):Prop where
 ne:NE r0 sh T B R h
 rk:%5F
 ob:My r0 nm ls h
 cn:h[r0+1]? =#g(CG c R)
 st:h[r0+8]? =%V((R.vars++R.mines).map λv=>%7d)
 sp:h[r0+10]? =some SP
 hm:r0+11≤m
 nh:R.handlers.length≤256
 ho:∀hd∈R.handlers,HOk hd
 hl:∃qs:%r,h[r0+9]? =%V(qs.map .ref)∧HL h qs R.handlers∧(∀q∈qs,r0+11≤q∧q+1<m)∧qs.Pairwise λa b=>a+1<b
section
variable{r0 sh j e n m c:Nat}{nm ls:W}{T:Table}{B:Book}{SP:O}{R:Rules}{h h':List O}{b:Nat→Prop}{pre l:List Word}
%tHL.kp{qs:%r}{hs:&4R}(H:HL h qs hs)(k:Kp j h h')(hq:∀q∈qs,q+1<j):HL h' qs hs:=⟨H.1,λi q hd h1 h2=>by
 o⟨a,b⟩:=H.2 i q hd h1 h2;h:=hq q (List.mem_of_getElem? h1)
 e⟨k.get %w a,%5ib⟩⟩
%tRG.kp(G:RG r0 sh T B SP m c nm ls R h)(k:Kp j h h')(hj:m≤j):RG r0 sh T B SP m c nm ls R h':=by
 h hm:=G.hm;b9
 e{G with
  ne:=G.ne.kp k %w
  ob:=G.ob.kp k %w
  cn:=%5iG.cn
  st:=%5iG.st
  sp:=%5iG.sp
  hl:=⟨qs,%5iq1,q2.kp k (λq hq=>by h:=q3 q hq;omega),q3,q4⟩}
%tRG.mono{m':Nat}(G:RG r0 sh T B SP m c nm ls R h)(hm:m≤m'):RG r0 sh T B SP m' c nm ls R h:=by
 b9;e{G with hm:=Nat.le_trans G.hm hm,hl:=⟨qs,q1,q2,λq hq=>⟨(q3 q hq).1,Nat.lt_of_lt_of_le (q3 q hq).2 hm⟩,q4⟩}
%dXl(T:Table)(B:Book)(R:Rules)(e:Nat)(when_:Bool)(l:%g):#w(Deed×%g):=do
 if when_=true then
  let g←exLine T R e l
  let m←must e "do" g.2
  let a←gR T B R e m
  return (⟨some g.1,a.1⟩,a.2)
 else
  let a←gR T B R e l
  return (⟨none,a.1⟩,a.2)
%tkD{w:Bool}:deedWords T B R e w l=(Xl T B R e w l>>= λz=>closed z.2>>= λ_=>pure z.1):=by
 u deedWords Xl
 cases w with
 |true=>s[if_true,AE,pure_bind,d5]
 |false=>s[Bool.false_eq_true,if_false,AE,pure_bind,d5]
%dQD(j e:Nat)(h:%a)(b:Nat→Prop)(a:Deed×%g)(v:W)(h':%a):Prop:=v=dW a.1∧Kp j h h'∧(∃pre',LA b h' j pre' a.2 e)∧a.1.code.length≤1000
%tUC{x y:W}{xs ys:Bytes}(hx:Em x h=some (Ai xs))(hy:Em y h=some (Ai ys))(hl:xs.length+ys.length≤16777216):Lg x y h=%1J(xs++ys):=by
 h:(Ai xs).length+(Ai ys).length≤sizeLine:=by s[Ai,List.length_map];e hl
 h ba:Ai (xs++ys)=Ai xs++Ai ys:=List.map_append ..;s[Lg,hx,hy,&4U,ba]
%tZj(N:NE r0 sh T B R h)(K:%5F)(TK:^o)(hB:B.length≤32)(hO:My r0 nm ls h)(hj:r0+8≤j)(hb:∀i,^C→i<h.length)(L:&k):
 Sim (GW %9q h) (Xl T B R e true l) (QD j e h b):=by
 u Xl;s[if_true];h8;xb [GW,Og,gn];r %Q(iF N K TK.msw hj hb L);rintro⟨g,r⟩ v h1 ⟨rfl,hc1,kp1,⟨pre1,L1⟩,hl1⟩;xb [L1.mth];r %Q(C5 L1 (s:="do") lit);rintro m v h2 ⟨w2,⟨s2,L2,_⟩,_⟩;h kp2:=&6u;h hbc:h.length≠j:=by h:=%0Z;omega
 h hc2:h2[h.length]? =%5Xg.code:=(s2.2 _ hbc).trans hc1;h o1:oLst [%6r] h2=.ok (&S[1]) h2:=rfl;h o2:Lg (&S[1]) ^H h2=.ok (&S([1]++g.code)) h2:=UC rfl (by s[Em,hc2]) (by h:g.code.length≤315:=hl1;simp;omega);xb [o1,o2];h hb2:∀i,^C→i<h2.length:=λi hi=>Nat.lt_of_lt_of_le (hb i hi) kp2.1;r %Q(UT (N.kp kp2 hj) K TK hB (hO.kp kp2 hj) hj hb2 L2);rintro⟨a,r3⟩ v h3 ⟨rfl,hc3,kp3,L3,hl3⟩;h hl1:g.code.length≤315:=hl1;h hl3:a.code.length≤640:=hl3;h o3:Lg (&S(1::g.code)) (.ref h2.length) h3=.ok (&S((1::g.code)++a.code)) h3:=UC rfl (by s[Em,hc3]) (by simp;omega);rw[o3];r⟨_,h3,rfl,rfl,kp2.trans kp3,L3,?_⟩;show(1::g.code++a.code).length≤1000;i;b
%teO(N:NE r0 sh T B R h)(K:%5F)(TK:^o)(hB:B.length≤32)(hO:My r0 nm ls h)(hj:r0+8≤j)(hb:∀i,^C→i<h.length)(L:&k):
 Sim ((En %9q h).bind λv h1=>Lg (&S[0]) v h1) (Xl T B R e false l) (QD j e h b):=by
 u Xl;s[Bool.false_eq_true,if_false];r %Q(UT N K TK hB hO hj hb L);rintro⟨a,r3⟩ v h3 ⟨rfl,hc3,kp3,L3,hl3⟩;h hl3:a.code.length≤640:=hl3;h o3:Lg (&S[0]) ^H h3=.ok (&S([0]++a.code)) h3:=UC rfl (by s[Em,hc3]) (by simp;omega);rw[o3];r⟨_,h3,rfl,rfl,kp3,L3,?_⟩;show([0]++a.code).length≤1000;i;b
end
section
variable{r0 sh j e n m c:Nat}{nm ls:W}{T:Table}{B:Book}{SP:O}{R:Rules}{h h':List O}{b:Nat→Prop}{pre l r:List Word}{w:Word}
%dau(T:Table)(B:Book)(R:Rules)(e:Nat)(w:Word)(l:%g):#wRules:=match R.handlers.getLast? with
 |none=>%1P
 |some v=>if 32≤v.deeds.length then %1P else deedWords T B R e (decide (w.w=%5j)) l>>= λd=>pure {R with handlers:=R.handlers.dropLast++[{v with deeds:=v.deeds++[d]}]}
%tNE.hs{hs:&4R}(N:NE r0 sh T B R h):NE r0 sh T B {R with handlers:=hs} h:=⟨N.tab,N.shw,N.nms,N.var,N.tim,N.sig,N.mod,N.r11,N.shl⟩
%tNE.bh{k:Nat}{o:O}(N:NE r0 sh T B R h)(hk:r0+8≤k):NE r0 sh T B R (h.set k o):=by
 h:=N.r11;h:=N.shl;h g:∀{i:Nat} {x:O},i<r0+8→h[i]? =%v→(h.set k o)[i]? =%v:=λhi q=>by rw[Ac %w];e q
 e⟨λi hi=>&2l(N.tab i hi),&2lN.shw,&2lN.nms,&2lN.var,&2lN.tim,&2lN.sig,&2lN.mod,N.r11,N.shl⟩
%tRG.vD{v:Handler}{hs0:&4R}{d:Deed}{q:Nat}{qs0:%r}(G:RG r0 sh T B SP m c nm ls R h)(hh:R.handlers=hs0++[v])(hd:v.deeds.length<32)(hdl:d.code.length≤1000)(hq:h[r0+9]? =&4r):
 RG r0 sh T B SP m c nm ls {R with handlers:=hs0++[{v with deeds:=v.deeds++[d]}]} (h.set (q+1) (.lst ((v.deeds++[d]).map dW))):=by
 b9
 h hqs:qs=qs0++[q]:=by
  rw[hq] at q1;s[Option.some.injEq,O.lst.injEq] at q1
  h inj:∀(xs ys:%r),xs.map W.ref=ys.map W.ref→xs=ys:=by
   intro xs
   induction xs with
   |nil=>intro ys z;cases ys with
    |nil=>rfl
    |cons y ys=>simp at z
   |cons x xs ih=>intro ys z;cases ys with
    |nil=>simp at z
    |cons y ys=>
     v7
  e(inj _ _ q1).symm
 j6;h hqm:=q3 q (by simp);h hm:=G.hm;h ne1:∀{i:Nat} {x:O},i<r0+11→h[i]? =%v→(h.set (q+1) (.lst ((v.deeds++[d]).map dW)))[i]? =%v:=λhi z=>by rw[Ac %w];e z
 h hvm:v∈R.handlers:=by rw[hh];simp
 h hvo:=G.ho v hvm;k1;r{ne:=(G.ne.bh %w).hs,rk:=⟨G.rk.nva,G.rk.nmi,G.rk.nti,G.rk.nsi,G.rk.nmo,G.rk.vnm,G.rk.tnm,G.rk.snm,G.rk.mnm⟩,ob:=ne1 %w G.ob,cn:=?_,st:=ne1 %w G.st,sp:=ne1 %w G.sp,hm:=hm,nh:=?_,ho:=?_,hl:=⟨qs0++[q],ne1 %w hq,⟨?_,?_⟩,q3,q4⟩}
 ·h:CG c {R with handlers:=hs0++[{v with deeds:=v.deeds++[d]}]}=CG c R:=by
   u CG;rw[hh];i
  l;e ne1 %w G.cn
 ·h:=G.nh;rw[hh] at this;f3
 ·Y;rcases List.mem_append.mp hx with z|z
  ·e G.ho x (by rw[hh];e &6nz)
  ·rw[List.mem_singleton] at z;y;r{ev:=hvo.ev,mo:=hvo.mo,nd:=by simp;omega,dl:=HY hvo.dl hdl}
 ·simpa using hlen
 ·intro i q' hd' e1 e2;by_cases hi:i<qs0.length
  ·h e1':(qs0++[q])[i]? =some q':=e1;rw[List.getElem?_append_left hi] at e1;rw[List.getElem?_append_left %w] at e2;h hqq:q'+1<q:=(List.pairwise_append.mp q4).2.2 q' &5T q (by simp);o⟨a1,a2⟩:=q2.2 i q' hd' e1' (by rw[hh,List.getElem?_append_left %w];e e2);e⟨by rw[Ac %w];e a1,by rw[Ac %w];e a2⟩
  ·h hlt:=(List.getElem?_eq_some_iff.mp e1).1;h hi:i=qs0.length:=by simp at hlt;omega
   subst hi;rw[List.getElem?_append_right %L] at e1;rw[hlen,List.getElem?_append_right %L] at e2;simp at e1 e2;subst e1;subst e2;e⟨by rw[Ac %w];e l1,Aq l2⟩
%tWO(G:RG r0 sh T B SP m c nm ls R h)(TK:^o)(hB:B.length≤32)(hb:∀i,^C→m≤i∧i<h.length)(L:&1yb(w::r)):
 Sim ((B4 %9q h).bind λ_ h1=>^Q) (au T B R e w r) (λR' v h'=>RG r0 sh T B SP m c nm ls R' h'∧R'.name=R.name∧R.handlers≠[]∧m≤h'.length):=by
 o⟨h1,e1,s1,L1⟩:=L.take;h hmj:m≤j:=%0Z.1;h hm:=G.hm;h G1:=&3U;o⟨qs,q1,q2,q3,q4⟩:=G1.hl;h gh:%9jh1=%9Hh1:=G1.ob.ga rfl
 h ol:BM [.ref (r0+9)] h1=^n(nW R.handlers.length):=by
  s[BM,NO,q1,List.length_map,q2.1];a
 u au
 cases hg:R.handlers.getLast? with
 |none=>
  y6;h o0:%8MR.handlers.length h1=%5dtrue h1:=by rw[hn];rfl
  xb [B4,Gf,L.mth,e1,gh,ol,o0,L1.mth,L1.Fc]
  rfl
 |some v=>
  o⟨hs0,hh⟩:=List.getLast?_eq_some_iff.mp hg
  h hql:qs.getLast?≠none:=by
   intro z;h:qs=[]:=List.getLast?_eq_none_iff.mp z;h:=q2.1;rw[hh] at this
   simp_all
  r0;j6;k1;h hqm:=q3 q (by simp)
  h o0:%8MR.handlers.length h1=&1mh1:=by
   h:R.handlers.length≠0:=by rw[hh];simp
   c1
  h ix:∀{h2:%a},h2[r0+9]? =&4r→oIx &3C (.int (-1)) h2=%Dq h2:=by
   intro h2 z;s[oIx,AH,z,Option.orElse,XA,List.map_append,List.map_cons,List.map_nil,List.getLast?_concat]
  h ga:∀{h2:%a},h2[q]? =some (hdO v (q+1))→BN "actions" %8A h2=%D(q+1)h2:=λz=>%3Cz
  h ol2:BM [.ref (q+1)] h1=^n(nW v.deeds.length):=by
   s[BM,NO,l2,List.length_map];a
  h hnd:=(G.ho v (by rw[hh];simp)).nd;v;by_cases q32:v.deeds.length=32
  ·rw[if_pos %w];h o32:%4Tv.deeds.length 32 h1=%5dtrue h1:=by rw[q32];rfl
   xb [B4,Gf,L.mth,e1,gh,ol,o0,ix q1,ga l1,ol2,o32,L1.mth,L1.Fc];a
  d5
  h o32:%4Tv.deeds.length 32 h1=&1mh1:=by
   c1
  rw[kD,AE];h hb1:∀i,^C→i<h1.length:=λi hi=>by rw[s1.1];e(hb i hi).2
  h fin3:∀(d:Deed) (r3:%g) (h3:%a) (pre3:%g),Kp j h1 h3→LA b h3 j pre3 r3 e→d.code.length≤1000→Sim ((%9jh3).bind λx h4=>(oIx x (.int (-1)) h4).bind λy h5=>(BN "actions" y h5).bind λz h6=>(match z with
   |.ref i=>match h6[i]? with
    |some (.lst _)=>(Bq i [dW d] h6).bind λ_ h7=>Gx j h7
    |_=>.bad
   |_=>.bad)) (closed r3>>= λ_=>pure {R with handlers:=R.handlers.dropLast++[{v with deeds:=v.deeds++[d]}]}) (λR' v h'=>RG r0 sh T B SP m c nm ls R' h'∧R'.name=R.name∧R.handlers≠[]∧m≤h'.length):=by
   intro d r3 h3 pre3 kp3 L3 hdl;l2;h l1':=%9cl1;m6;rw[gh3,A3,ix q1',A3,ga l1',A3];s[l2'];h hl32:(v.deeds.map dW).length<sizeLine:=by rw[List.length_map];e %3ahnd
   h oa:Bq (q+1) [dW d] h3=#t(h3.set (q+1) (.lst ((v.deeds++[d]).map dW))):=by
    s[Bq,l2',if_pos hl32,List.map_append];a
   rw[oa,A3];h nb:¬b (q+1):=λz=>by h:=(hb _ z).1;omega
   r(FY (L3.FZ nb)).toPure ?_;rintro _ v' h8 ⟨_,rfl,_⟩;h:=G3.vD hh (show v.deeds.length<32 by omega) hdl q1';h hdl2:R.handlers.dropLast=hs0:=by rw[hh];simp
   rw[hdl2];r⟨this,rfl,by rw[hh];simp,?_⟩;h h1l:=kp3.1;h h2l:=%0Z.2;h h3l:=s1.1;a1;b
  h hr8:r0+8≤j:=%w;by_cases qw:w.w=%5j
  ·rw[decide_eq_true qw];xb [B4,Gf,L.mth,e1,gh,ol,o0,ix q1,ga l1,ol2,o32,Wu (s:="when") (x:="when") lit,decide_eq_true qw];r %Q(Zj G1.ne G1.rk TK hB G1.ob hr8 hb1 L1);s1;l2;h l1':=%9cl1;m6;rw[gh3,A3,ix q1',A3,ga l1',A3] at this;s[l2'] at this;xb [gh3,ix q1',ga l1',fLM,l2'];I;G
  ·rw[decide_eq_false qw];h o1:oLst %9p h1=^n(&S[0]):=rfl;xb [B4,Gf,L.mth,e1,gh,ol,o0,ix q1,ga l1,ol2,o32,Wu (s:="when") (x:="when") lit,decide_eq_false qw,o1];rw[←LH];r %Q(eO G1.ne G1.rk TK hB G1.ob hr8 hb1 L1);s1;l2;h l1':=%9cl1;m6;rw[gh3,A3,ix q1',A3,ga l1',A3] at this;s[l2'] at this;xb [gh3,ix q1',ga l1',fLM,l2'];I;G
end
section
variable{r0 sh j e n m c:Nat}{nm ls:W}{T:Table}{B:Book}{SP:O}{R R':Rules}{h h':List O}{b:Nat→Prop}{pre l r:List Word}{w:Word}
%tRG.next{c':Nat}{nm' ls':W}(G:RG r0 sh T B SP m c nm ls R h)(K':RK' R')(hh:R'.handlers=R.handlers)(keep:∀i o,(i<r0∨i=r0+2∨i=r0+9∨i=r0+10∨r0+11≤i)→h[i]? =%b→h'[i]? =%b)(ob':My r0 nm' ls' h')
 (cn':h'[r0+1]? =#g(CG c' R')) (var':h'[r0+4]? =#g(PJ R')) (tim':h'[r0+5]? =%7GR'.timers) (sig':h'[r0+6]? =%7GR'.signals) (mod':h'[r0+7]? =%7GR'.modes) (st':h'[r0+8]? =%V((R'.vars++R'.mines).map λv=>%7d)):RG r0 sh T B SP m c' nm' ls' R' h':=by
 h r11:=G.ne.r11;h shl:=G.ne.shl;b9;r{ne:=⟨λi hi=>keep i _ &1z (G.ne.tab i hi),keep _ _ (.inl shl) G.ne.shw,keep _ _ &3w G.ne.nms,var',tim',sig',mod',r11,shl⟩,rk:=K',ob:=ob',cn:=cn',st:=st',sp:=keep _ _ (.inr (^b%U)) G.sp,hm:=G.hm,nh:=by rw[hh];e G.nh,ho:=by rw[hh];e G.ho,hl:=⟨qs,keep _ _ (^b%U) q1,?_,q3,q4⟩};rw[hh];r⟨q2.1,λi q hd e1 e2=>?_⟩;o⟨a1,a2⟩:=q2.2 i q hd e1 e2;h:=q3 q &5T;e⟨keep _ _ (^b(^b %w)) a1,keep _ _ (^b(^b %w)) a2⟩
%tRG.len(G:RG r0 sh T B SP m c nm ls R h):BM [.ref (r0+9)] h=%1OR.handlers.length:=by
 b9;s[BM,NO,q1,List.length_map,q2.1];a
%tRG.mth(G:RG r0 sh T B SP m c nm ls R h)(k:%p):mth "Rules" "wants_action" #f h k=k:=by
 h:=G.ob;u My at this;s[JU.mth,this];e if_pos ⟨trivial,rfl⟩
%tUY(G:RG r0 sh T B SP m c nm ls R h):BU [#f] h=&K(lastEmpty R):=by
 h gh:%9jh=%9Hh:=&0B;h ol:=G.len;b9;u lastEmpty
 cases hg:R.handlers.getLast? with
 |none=>
  y6;rw[hn] at ol;h ol:BM [.ref (r0+9)] h=%s#r:=ol;h z:decide ((0:Int)<0)=false:=by decide
  xr [BU,Fz,gh,ol,z,Option.map_none,Option.getD_none]
 |some v=>
  o⟨hs0,hh⟩:=List.getLast?_eq_some_iff.mp hg
  h hql:qs.getLast?≠none:=by
   intro z;h:qs=[]:=List.getLast?_eq_none_iff.mp z;h:=q2.1;rw[hh] at this
   simp_all
  r0;j6;k1;h hp:0<R.handlers.length:=by rw[hh];simp
  h z:decide ((0:Int)<(R.handlers.length:Nat))=true:=&0g
  h ix:oIx &3C (.int (-1)) h=%Dq h:=by
   s[oIx,AH,q1,Option.orElse,XA,List.map_append,List.map_cons,List.map_nil,List.getLast?_concat]
  h ga:BN "actions" %8A h=%D(q+1)h:=%3Cl1
  h ol2:BM [.ref (q+1)] h=%1Ov.deeds.length:=by
   s[BM,NO,l2,List.length_map];a
  h ol:BM [.ref (r0+9)] h=%1F(R.handlers.length:Nat):=ol
  h o0:%8Mv.deeds.length h=&Kv.deeds.isEmpty:=by
   cases v.deeds with
   |nil=>rfl
   |cons d ds=>
    s[nW,oEq,List.length_cons,List.isEmpty_cons];j3
  xr [BU,Fz,gh,ol,z,ix,ga,ol2,o0,Option.map_some,Option.getD_some]
%dKf(R:Rules)(e:Nat)(l:%g):#w(Var×%g):=do
 let x←SU e KEPT R.varNames l
 let z←intWord e x.2
 return (⟨x.1,z.1⟩,z.2)
%tWZ:newVar R e l=(Kf R e l>>= λa=>%3h>>= λ_=>pure a.1):=by
 u newVar Kf
 cases l with
 |nil=>rfl
 |cons w r=>
  show(holds (isName w.w&&!KEPT.contains w.w) 4 w.at_>>= _)=(((if ^f=false then _ else _)>>= _)>>= _)
  cases q1:^f with
  |false=>rfl
  |true=>
   a0
   cases q2:KEPT.contains w.w with
   |true=>rfl
   |false=>
    s[Bool.not_false,Bool.and_self,DZ,okE]
    cases q3:R.varNames.contains w.w with
    |true=>rfl
    |false=>
     s[Bool.not_false,DZ,okE,AE,pure_bind,Bool.false_eq_true,if_false]
%tnN:D4 (.ktp [.str "left",.str "in",.str "closed"])=some (KEPT.map λn=>%5D):=by
 h e:(["left","in","closed"]:%u)=KEPT.map S:=by decide+kernel
 y8;e congrArg some this
%tiJ{x:Var×Nat}(hd:h[r0+4]? =#g(PJ R))(hn:(R.varNames).contains x.1.name=false)(hl:%3z.length<16777216):OO &3A (%Zx.1.name) #S h=%9I(r0+4)(.dct (&2I(λx=>#S)(Er R++[x]))):=by
 rw[←HS] at hn;e Ht (nm:=λx:Var×Nat=>x.1.name) (vl:=λx=>#S) hd hn hl
%dQV(r0 j e:Nat)(R:Rules)(h:%a)(b:Nat→Prop)(base:Nat)(a:Var×%g)(h':%a):Prop:=∃h2 pre',Kp j h h2∧LA b h2 j pre' a.2 e∧h'=(h2.set (r0+8) (.lst (((R.vars++R.mines)++[a.1]).map λv=>%7d))).set (r0+4) (.dct (&2I(λx=>#S)(Er R++[(a.1,base)])))∧isName a.1.name=true
%tiY{key:Str}{base cnt:Nat}(G:RG r0 sh T B SP m c nm ls R h)(hmj:m≤j)(L:&k)(hk:#D^E%3L h=^A)(hk2:((fOr (^X2"var") (^X2"mine")) [some #f,%H,&0m,none] h)=%strue)
 (hbase:∀h2,EI (.kd [(.inr "var",#r),(.inr "mine",%9G)]) ^E h2=.ok (nW base) h2) (hcnt:%1N(CG c R)key=&hcnt) (hbn:∀i,^C→m≤i):
 Sim (Br &0L h) (Kf R e l) (λa v h'=>QV r0 j e R h b (base+cnt) a h'):=by
 h hm:=G.hm;h gn:∀{h2:%a},RG r0 sh T B SP m c nm ls R h2→%7lh2=%6jh2:=λG=>&0B;h gs:∀{h2:%a},RG r0 sh T B SP m c nm ls R h2→%4H"starts"h2=%D(r0+8)h2:=λG=>&0B;h gv:Bf ^q &2D h=%D(r0+4)h:=G.ne.get rfl
 h e1:Br &0L h=(D8 &0L h).bind λ_ h1=>#th1:=by
  generalize hF:D8=F;u Br HQ;rw[hF];generalize hC:(fOr (^X2"var") (^X2"mine"))=C at hk2 ⊢;xr [Cg,hk,hk2,VH]
 A;u Kf;rw[←HS];xb [D8,MU,gn G,gv,L.mth];r %Q(LX (nm:=λx:Var×Nat=>x.1.name) (vl:=λx=>#S) (xs:=%3z) L G.ne.var nN (λ_=>rfl));t9;h gst:h1[r0+8]? =%V((R.vars++R.mines).map λv=>%7d):=G1.st;xb [gs G1,fLM,gst,L1.mth];r %Q(a0 L1);rintro⟨z,zr⟩ v h2 ⟨rfl,hfit,w2,⟨s2,L2,_⟩,_⟩;h G2:=G1.kp s2.kp hmj;U
 h hlv:((R.vars++R.mines).map λv=>W.int v.at_).length<sizeLine:=by
  h:=rk.nva;h:=rk.nmi;h h16:(96:Nat)<sizeLine:=by decide
  rw[List.length_map,List.length_append];b
 h oa:Bq (r0+8) [.int z] h2=#t(h2.set (r0+8) (.lst (((R.vars++R.mines)++[(⟨nn,z⟩:Var)]).map λv=>%7d))):=by
  s[Bq,G2.st,if_pos hlv];c4
 generalize hh3:h2.set (r0+8) (.lst (((R.vars++R.mines)++[(⟨nn,z⟩:Var)]).map λv=>%7d))=h3 at oa;h get3:∀{i:Nat} {o:O},i≠r0+8→h2[i]? =%b→h3[i]? =%b:=λhi q=>by rw[←hh3,Ac (Ne.symm hi)];e q
 h gc:%4H"counts"h3=%D(r0+1)h3:=My.ga (get3 %w G2.ob) rfl
 h dc:Bf &0D ^E h3=.ok (nW cnt) h3:=by
  s[Bf,C6 (get3 %w G2.cn),keyOf,hcnt]
 h hn:(R.varNames).contains nn=false:=by rw[←HS];e hc
 h sd:OO &3A (%Znn) (nW (base+cnt)) h3=#z(&2o(r0+4)(&2I(λx=>#S)(Er R++[((⟨nn,z⟩:Var),base+cnt)]))):=by
  h hl:%3z.length<16777216:=by
   h:=rk.nva;h:=rk.nmi;u Er;rw[List.length_append,List.length_zipIdx,List.length_zipIdx];b
  e iJ (x:=((⟨nn,z⟩:Var),base+cnt)) (get3 %w G2.ne.var) hn hl
 xb [oa,hbase,gc,dc]
 h ni:W.int ((base:Int)+(cnt:Int))=nW (base+cnt):=by
  show _=W.int ((base+cnt:Nat):Int);rw[show((base+cnt:Nat):Int)=(base:Int)+cnt by omega]
 show Sim ((Res.ok (W.int ((base:Int)+(cnt:Int))) h3).bind _) _ _;rw[A3,ni,sd,A3];r⟨_,_,rfl,h2,_,s1.kp.trans s2.kp,L2,?_,hin⟩;rw[←hh3]
end
%tSim.kU{α β γ:Type}{r:%8w}{s:%0K}{Q:α→β→%a→Prop}{k:β→%a→Res γ}{Q':α→γ→%a→Prop}(h:Sim r s Q)(hk:∀a v h',Q a v h'→∃v2 h2,k v h'=.ok v2 h2∧Q' a v2 h2):Sim %8j s Q':=by
 cases s with
 |error F=>rw[show r=_ from h];rfl
 |ok a=>o⟨v,h',rfl,q⟩:=h;e hk a v h' q
section
variable{r0 sh j e n m c:Nat}{nm ls:W}{T:Table}{B:Book}{SP:O}{R R':Rules}{h h':List O}{b:Nat→Prop}{pre l r:List Word}{w:Word}
%tgg{ns:#s}{x:Bytes}:Fp (λx:Bytes×Nat=>x.1) (λx=>#S) (ns.zipIdx++[(x,ns.length)])=M0 (ns++[x]):=by
 u M0;rw[List.zipIdx_append];i
%dfVM:FT:=fOr (^X2"var") (^X2"mine")
%dbhT:FS:=#F3(%9J3 By 1(%1R(%4zBf%0e)&4h))(GJ (%4zBf%0e) &J %7x)
%dbhO:FS:=&0oBq%7L(Ax 2 Fu (%1s%0e 1))
%tVW:HQ=sIf (^X2"rules") (&p"name"(&E"take_name"1 Bx 1 Ad)) (sIf fVM (AI (%1c3 D8 0 1 2)) (sIf (^X2"on") bhO bhT)):=rfl
%tYG{x y z:W}:Br [x,y,z] h=fin (HQ [%v,%4g,%9U,none] h):=by
 u Br;rw[Cg];a
%tbw{key:Str}{d:Nat}{ns:#s}(G:RG r0 sh T B SP m c nm ls R h)(hmj:m≤j)(L:&k)(hk:#D^E%3L h=^A)(hk2:fVM [%1x,%H,&0m,none] h=%sfalse)(hk3:#D^E%3R h=^A)
 (hd:%1N%7F key=%ed) (D:h[d]? =%7Gns) (hdm:d<m) (hns:ns.length≤256) (hcnt:%1N(CG c R)key=&hns.length):
 Sim (Br &0L h) (%7Ins l) (λa v h'=>∃h2 pre',Kp j h h2∧LA b h2 j pre' a.2 e∧h'=h2.set d (.dct (M0 (ns++[a.1])))∧isName a.1=true):=by
 h e1:Br &0L h=fin (bhT [%1x,%H,&0m,none] h):=by
  rw[YG,VW];m7;generalize fVM=VM at hk2 ⊢;xr [hk,hk2,hk3]
 rw[e1,Mf,Ov (ns:=ns) (k:=0)];h7;h gn:%7lh=%6jh:=&0B;xb [bhT,gn,G.ne.get hd,sz,L.mth];r Sim.kU (LX (nm:=λx:Bytes×Nat=>x.1) (vl:=λx=>#S) (xs:=ns.zipIdx) L D YA (λ_=>rfl)) ?_;t9;h gc:%4H"counts"h1=%D(r0+1)h1:=G1.ob.ga rfl
 h dc:Bf &0D ^E h1=^n(nW ns.length):=by
  s[Bf,C6 G1.cn,keyOf,hcnt]
 h gn1:%7lh1=%6jh1:=G1.ob.ga rfl;h D1:h1[d]? =%7Gns:=s1.kp.get %w D;h sd:=Ht (nm:=λx:Bytes×Nat=>x.1) (vl:=λx=>#S) (xs:=ns.zipIdx) (x:=(nn,ns.length)) D1 hc (by rw[List.length_zipIdx];e %3ahns);rw[gg] at sd;xb [gc,dc,gn1,G1.ne.get hd,sd];e⟨_,_,rfl,h1,_,s1.kp,L1,by rw[←Ov],hin⟩
%ttL(G:RG r0 sh T B SP m c nm ls R h)(TK:^o)(hmj:m≤j)(L:&k):
 Sim (Br (%4a%3R) h) (Jw T R e l) (λa v h'=>∃h2 pre' k qs,Kp j h h2∧LA b h2 j pre' a.2 e∧h.length≤k∧h2[k]? =some (hdO a.1 (k+1))∧h2[k+1]? =%V[]∧sL a.1∧a.1.deeds=[]∧h2[r0+9]? =%V(qs.map .ref)∧h'=h2.set (r0+9) (.lst ((qs++[k]).map .ref))):=by
 h hm:=G.hm;h hk:#D%3R%3L h=^A:=rfl;h hk2:fVM [%1x,%H,some %3R,none] h=%sfalse:=rfl;h hk3:#D%3R%3R h=%4O:=by simp[oEq]
 h e1:Br (%4a%3R) h=fin (bhO [%1x,%H,some %3R,none] h):=by
  rw[YG,VW];m7;generalize fVM=VM at hk2 ⊢;xr [hk,hk2,hk3]
 A;h gn:%7lh=%6jh:=&0B;h gh:%9jh=%9Hh:=&0B;b9;xb [bhO,fLM,gh,q1,gn];r Sim.kU (Zi G.ne G.rk TK.msw TK.nde %w L) ?_;rintro⟨hd,r⟩ v h1 ⟨k,rfl,hk1,e2,e3,kp,⟨pre',L1⟩,hok,hde⟩;h q1':h1[r0+9]? =%V(qs.map .ref):=kp.get %w q1
 h hlen:(qs.map W.ref).length<sizeLine:=by
  h:=G.nh;rw[List.length_map,q2.1];e %3athis
 h oa:Bq (r0+9) [.ref k] h1=#t(h1.set (r0+9) (.lst ((qs++[k]).map .ref))):=by
  s[Bq,q1',if_pos hlen,List.map_append,List.map_cons,List.map_nil]
 xb [oa];e⟨_,_,rfl,h1,pre',k,qs,kp,L1,hk1,e2,e3,hok,hde,q1',rfl⟩
%tmj(G:RG r0 sh T B SP m c nm ls R h)(hmj:m≤j)(L:&k):
 Sim (Br (%4a%3L) h) (%7I[]l) (λa v h'=>∃h2 pre',Kp j h h2∧LA b h2 j pre' a.2 e∧h'=h2.set r0 (%8B(%Za.1)ls)∧isName a.1=true):=by
 h hk:#D%3L%3L h=%4O:=by simp[oEq]
 h e1:Br (%4a%3L) h=fin ((&p"name"(&E"take_name"1 Bx 1 Ad)) [some #f,%H,some %3L,none] h):=by
  rw[YG,VW];m7;generalize fVM=VM;generalize Bx=F;xr [hk]
 A;xb [L.mth];r Sim.kU (Zh L) ?_;rintro⟨nn,nr⟩ v h1 ⟨rfl,hin,w1,⟨s1,L1,_⟩,_⟩;h G1:=&3U;h sa:Fj "name" (%Znn) #f h1=#z(h1.set r0 (%8B(%Znn)ls)):=Eb G1.ob (by simp[A7]);xb [sa];e⟨_,_,rfl,h1,_,s1.kp,L1,rfl,hin⟩
%drlZ:FS:=Ag (X0 (oI λi j=>#c) (%X"counts") &j ^T) (&p"last_sort"&j)
%tMa{key:Str}{cnt:Nat}{cd':&u}{h3:%a}(ob:h3[r0]? =&1jnm)(cn:h3[r0+1]? =#g(CG c R))(hcnt:%1N(CG c R)key=&hcnt)(hput:Tw (CG c R) (.inr key) (nW (cnt+1))=cd'):
 rlZ %6h h3=.nx %6h ((&2o(r0+1)cd').set r0 (%8Bnm^E)):=by
 h gc:%4H"counts"h3=%D(r0+1)h3:=%3Cob
 h dc:Bf &0D ^E h3=.ok (.int (cnt:Nat)) h3:=by
  s[Bf,C6 cn,keyOf,hcnt];a
 h ni:W.int ((cnt:Int)+1)=nW (cnt+1):=rfl
 h sd:OO &0D ^E (.int ((cnt:Int)+1)) h3=#z(&2o(r0+1)cd'):=by
  h hl:(CG c R).length<sizeLine:=by
   show 7<sizeLine;decide
  rw[ni];s[OO,C6 cn,keyOf,if_pos hl,hput]
 h ob2:(&2o(r0+1)cd')[r0]? =&1jnm:=by rw[Ac %w];e ob
 h sa:Fj "last_sort" ^E #f (&2o(r0+1)cd')=#z((&2o(r0+1)cd').set r0 (%8Bnm^E)):=Eb ob2 (by simp[A7]);xr [rlZ,X0,gc,dc,sd,sa]
end
%duR:W:=.kd [(.inr "rules",%6r),(.inr "var",%9G),(.inr "mine",(.int 32)),(.inr "timer",(.int 16)),(.inr "signal",%9G),(.inr "mode",(.int 15)),(.inr "on",(.int 256))]
%drlC:FT:=fOr (%0A%7x(&0CEI uR)) (fB (Ao "Rules" "wants_action" 1 BU &Z Ad))
%drlT:FS:=&e(#YrlC 3 1 Av 1 Ad)(AI (%1c3 Br 0 1 2))rlZ
%toB:Oj=&e(#G(fOr (fB (%3X2 AY 1(%C"do"))) (fB (%3X2 AY 1(%C"when"))))(Ag (AI (#v2 B4 0 1)) Tv))(AU 2 (%3O3 CB 1(%1R(%5o[%3L,%8c,%7X,%1h,%0w,%0d,%3R])(%X"last_sort"))))rlT:=rfl
%ttK:W.ktp [%3L,%8c,%7X,%1h,%0w,%0d,%3R]=.ktp (RS7.map λs=>%1r):=by
 h e:(["rules","var","mine","timer","signal","mode","on"]:%u)=RS7.map S:=by decide+kernel
 u9;G
%tSH:RS7.Nodup:=by decide+kernel
section
variable{r0 sh j e n m c:Nat}{nm ls:W}{T:Table}{B:Book}{SP:O}{R R':Rules}{h h':List O}{b:Nat→Prop}{pre l r:List Word}{w:Word}{y:RHad}
%tMb{key:Str}{cnt lim:Nat}(G:RG r0 sh T B SP m c nm ls R h)(hcnt:%1N(CG c R)key=&hcnt)(hlim:EI uR ^E h=%1Olim):rlC %6h h=%s(decide (cnt=lim)||lastEmpty R):=by
 h gc:%4H"counts"h=%D(r0+1)h:=&0B
 h dc:Bf &0D ^E h=%1Ocnt:=by
  s[Bf,C6 G.cn,keyOf,hcnt]
 xr [rlC,gc,dc,hlim,Rx];by_cases q:cnt=lim
 ·xr [decide_eq_true q,Bool.true_or]
 ·xr [decide_eq_false q,Bool.false_or,G.mth,UY G]
%tOx{key:Str}(L:%4Rb h j l e)(hc:rlC %6h h=%strue):rlT %6h h=%7r3 w.at_:=by
 u rlT;generalize rlC=C at hc ⊢;generalize rlZ=Z;generalize Br=F;xm [hc,L.mth,L.Fc];a
%tqo{key:Str}(hc:rlC %6h h=%sfalse):rlT %6h h=(Br &0L h).st λ_ h2=>rlZ %6h h2:=by
 u rlT;generalize rlC=C at hc ⊢;generalize rlZ=Z;generalize Br=F;xm [hc]
structure RY(y:RHad):Prop where
 s7:y.sort<7
 h6:y.R.handlers≠[]→y.sort=6
 m2:y.R.mines≠[]→2≤y.sort
 no:isName y.R.name=true
%dRSt(r0 sh:Nat)(T:Table)(B:Book)(SP:O)(m:Nat)(s:%5n)(h:%a):Prop:=match s with
 |none=>RG r0 sh T B SP m 0 &0e .non noRules h
 |some y=>RG r0 sh T B SP m 1 %3H (%Z(RS7.getD y.sort [])) y.R h∧RY y
%dQL(r0 sh:Nat)(T:Table)(B:Book)(SP:O)(s:%5n)(v:W)(h':%a):Prop:=∃m',m'≤h'.length∧RSt r0 sh T B SP m' s h'
%tU1{α:Type}{s:%0K}{g:α→%5n}{rf:α→%g}{key:Str}{Q:α→W→%a→Prop}(hc:rlC %6h h=%sfalse)(H:Sim (Br &0L h) s Q)
 (hk:∀a v h2,Q a v h2→∃h3 pre3,rlZ %6h h2=.nx %6h h3∧LA b h3 j pre3 (rf a) e∧QL r0 sh T B SP (g a) .non h3):
 Sim ((fin (rlT %6h h)).bind λ_ h1=>^Q) (s>>= λa=>closed (rf a)>>= λ_=>pure (g a)) (QL r0 sh T B SP):=by
 rw[qo hc,VH,LH];r %QH;intro a v h2 q;o⟨h3,pre3,e1,L3,hq⟩:=hk a v h2 q;rw[e1,kg,A3];r(FY L3).toPure ?_;rintro _ v' h4 ⟨_,rfl,_⟩;e hq
%tXM{α:Type}{xs:#y}{x:α}:(xs++[x]).length=xs.length+1:=by simp
%tl7(G:RG r0 sh T B SP m 1 %3H ls y.R h)(Y:RY y)(hb:∀i,^C→m≤i∧i<h.length)(L:%4Rb h j l e)(hs:y.sort≤1):
 Sim ((fin (rlT (%7h(some %8c)) h)).bind λ_ h1=>^Q) (if VARS≤y.R.vars.length then %1P else Kf y.R e l>>= λa=>%3h>>= λ_=>%1H1 {y.R with vars:=y.R.vars++[a.1]}) (QL r0 sh T B SP):=by
 b8;h hmn:y.R.mines=[]:=Classical.byContradiction λz=>by h:=Y.m2 z;omega
 d6;h hc:=Mb (j:=j) (key:="var") (cnt:=y.R.vars.length) (lim:=64) G rfl rfl;h nva:=G.rk.nva;rw[show VARS=64 from rfl];e4;by_cases q:64≤y.R.vars.length
 ·e1;d4
 d9;r U1 (b:=b) (e:=e) (rf:=λa:Var×%g=>a.2) (g:=λa=>&0h1 {y.R with vars:=y.R.vars++[a.1]}) hc (iY (base:=0) (cnt:=y.R.vars.length) G hmj L rfl rfl (λ_=>rfl) rfl λi hi=>(hb i hi).1) ?_;c2;b0;r⟨_,pre1,Ma (nm:=%3H) (ls:=ls) (c:=1) (R:=y.R) (cnt:=y.R.vars.length) (cd':=CG 1 {y.R with vars:=y.R.vars++[a]}) ?_ ?_ rfl ?_,?_,?_⟩
 ·F;Q
 ·F;e G1.cn
 ·u CG;s[XM];a
 ·e((&1K.FZ %0I).FZ %0I).FZ %0I
 ·c3;r⟨m,by s[List.length_set];e hlen,?_,{s7:=(by show 1<7;decide),h6:=λz=>absurd hhn z,m2:=λz=>absurd hmn z,no:=Y.no}⟩;U;r G1.next (R':={y.R with vars:=y.R.vars++[a]}) ⟨by simp;omega,rk.nmi,rk.nti,rk.nsi,rk.nmo,?_,rk.tnm,rk.snm,rk.mnm⟩ rfl ?_ ?_ ?_ ?_ ?_ ?_ ?_ ?_
  ·Y;h:x∈((y.R.vars++[a])++y.R.mines).map (λv:Var=>v.name):=hx;rw[hmn] at this;s[List.append_nil,List.map_append,List.map_cons,List.map_nil,List.mem_append,List.mem_singleton] at this;rcases this with z|z
   ·e rk.vnm x (by u Rules.varNames;rw[hmn];simpa using z)
   ·w;e hin
  ·d3;a2;e q
  ·d2;k;Q
  ·c6;F;e G1.cn
  ·F
   h:PJ {y.R with vars:=y.R.vars++[a]}=&2I(λx=>#S)(Er y.R++[(a,0+y.R.vars.length)]):=by
    u PJ Er;s[hmn,List.zipIdx_append];i
   l;r Aq (o:=.dct (PJ y.R)) ?_;K;e G1.ne.var
  ·a2;e G1.ne.tim
  ·a2;e G1.ne.sig
  ·a2;e G1.ne.mod
  ·k;h:((y.R.vars++[a])++y.R.mines)=((y.R.vars++y.R.mines)++[a]):=by rw[hmn];simp
   show _=some (O.lst (((y.R.vars++[a])++y.R.mines).map _));l;e Aq G1.st
end
section
variable{r0 sh j e n m c:Nat}{nm ls:W}{T:Table}{B:Book}{SP:O}{R R':Rules}{h h':List O}{b:Nat→Prop}{pre l r:List Word}{w:Word}{y:RHad}
%tiO(G:RG r0 sh T B SP m 1 %3H ls y.R h)(Y:RY y)(hb:∀i,^C→m≤i∧i<h.length)(L:%4Rb h j l e)(hs:y.sort≤2):
 Sim ((fin (rlT (%7h(some %7X)) h)).bind λ_ h1=>^Q) (if MINES≤y.R.mines.length then %1P else Kf y.R e l>>= λa=>%3h>>= λ_=>%1H2 {y.R with mines:=y.R.mines++[a.1]}) (QL r0 sh T B SP):=by
 b8;d6;h hc:=Mb (j:=j) (key:="mine") (cnt:=y.R.mines.length) (lim:=32) G rfl rfl;h nmi:=G.rk.nmi;rw[show MINES=32 from rfl];e4;by_cases q:32≤y.R.mines.length
 ·e1;d4
 d9;r U1 (b:=b) (e:=e) (rf:=λa:Var×%g=>a.2) (g:=λa=>&0h2 {y.R with mines:=y.R.mines++[a.1]}) hc (iY (base:=64) (cnt:=y.R.mines.length) G hmj L rfl rfl (λ_=>rfl) rfl λi hi=>(hb i hi).1) ?_;c2;b0;r⟨_,pre1,Ma (nm:=%3H) (ls:=ls) (c:=1) (R:=y.R) (cnt:=y.R.mines.length) (cd':=CG 1 {y.R with mines:=y.R.mines++[a]}) ?_ ?_ rfl ?_,?_,?_⟩
 ·F;Q
 ·F;e G1.cn
 ·u CG;s[XM];a
 ·e((&1K.FZ %0I).FZ %0I).FZ %0I
 ·c3;r⟨m,by s[List.length_set];e hlen,?_,{s7:=(by show 2<7;decide),h6:=λz=>absurd hhn z,m2:=λ_=>%L,no:=Y.no}⟩;U;r G1.next (R':={y.R with mines:=y.R.mines++[a]}) ⟨rk.nva,by simp;omega,rk.nti,rk.nsi,rk.nmo,?_,rk.tnm,rk.snm,rk.mnm⟩ rfl ?_ ?_ ?_ ?_ ?_ ?_ ?_ ?_
  ·Y;h:x∈(y.R.vars++(y.R.mines++[a])).map (λv:Var=>v.name):=hx;rw[←List.append_assoc,List.map_append,List.mem_append] at this;rcases this with z|z
   ·e rk.vnm x z
   ·s[List.map_cons,List.map_nil,List.mem_singleton] at z;w;e hin
  ·d3;a2;e q
  ·d2;k;Q
  ·c6;F;e G1.cn
  ·F
   h:PJ {y.R with mines:=y.R.mines++[a]}=&2I(λx=>#S)(Er y.R++[(a,64+y.R.mines.length)]):=by
    u PJ Er;s[List.zipIdx_append,List.append_assoc];i
   l;r Aq (o:=.dct (PJ y.R)) ?_;K;e G1.ne.var
  ·a2;e G1.ne.tim
  ·a2;e G1.ne.sig
  ·a2;e G1.ne.mod
  ·k;h:(y.R.vars++(y.R.mines++[a]))=((y.R.vars++y.R.mines)++[a]):=by simp
   show _=some (O.lst ((y.R.vars++(y.R.mines++[a])).map _));l;e Aq G1.st
%teU(G:RG r0 sh T B SP m 1 %3H ls y.R h)(Y:RY y)(hb:∀i,^C→m≤i∧i<h.length)(L:%4Rb h j l e)(hs:y.sort≤3):
 Sim ((fin (rlT (%7h(some %1h)) h)).bind λ_ h1=>^Q) (if TIMERS≤y.R.timers.length then %1P else %7Iy.R.timers l>>= λa=>%3h>>= λ_=>%1H3 {y.R with timers:=y.R.timers++[a.1]}) (QL r0 sh T B SP):=by
 b8;d6;h hc:=Mb (j:=j) (key:="timer") (cnt:=y.R.timers.length) (lim:=16) G rfl rfl;h nmi:=G.rk.nti;rw[show TIMERS=16 from rfl];e4;by_cases q:16≤y.R.timers.length
 ·e1;d4
 d9;r U1 (b:=b) (e:=e) (rf:=λa:Bytes×%g=>a.2) (g:=λa=>&0h3 {y.R with timers:=y.R.timers++[a.1]}) hc (bw (d:=r0+5) (ns:=y.R.timers) G hmj L rfl rfl rfl rfl G.ne.tim %w %w rfl) ?_;c2;b0;r⟨_,pre1,Ma (nm:=%3H) (ls:=ls) (c:=1) (R:=y.R) (cnt:=y.R.timers.length) (cd':=CG 1 {y.R with timers:=y.R.timers++[a]}) ?_ ?_ rfl ?_,?_,?_⟩
 ·K;Q
 ·V
 ·u CG;s[XM];a
 ·f0
 ·c3;r⟨m,by s[List.length_set];e hlen,?_,{s7:=(by show 3<7;decide),h6:=λz=>absurd hhn z,m2:=λ_=>(by show 2≤3;decide),no:=Y.no}⟩;U;r G1.next (R':={y.R with timers:=y.R.timers++[a]}) ⟨rk.nva,rk.nmi,by simp;omega,rk.nsi,rk.nmo,rk.vnm,HY rk.tnm hin,rk.snm,rk.mnm⟩ rfl ?_ ?_ ?_ ?_ ?_ ?_ ?_ ?_
  ·d3;k;e q
  ·d2;F;Q
  ·c6;V
  ·k;e G1.ne.var
  ·F;e Aq G1.ne.tim
  ·k;e G1.ne.sig
  ·k;e G1.ne.mod
  ·k;e G1.st
%tbj(G:RG r0 sh T B SP m 1 %3H ls y.R h)(Y:RY y)(hb:∀i,^C→m≤i∧i<h.length)(L:%4Rb h j l e)(hs:y.sort≤4):
 Sim ((fin (rlT (%7h(some %0w)) h)).bind λ_ h1=>^Q) (if SIGNALS≤y.R.signals.length then %1P else %7Iy.R.signals l>>= λa=>%3h>>= λ_=>%1H4 {y.R with signals:=y.R.signals++[a.1]}) (QL r0 sh T B SP):=by
 b8;d6;h hc:=Mb (j:=j) (key:="signal") (cnt:=y.R.signals.length) (lim:=64) G rfl rfl;h nmi:=G.rk.nsi;rw[show SIGNALS=64 from rfl];e4;by_cases q:64≤y.R.signals.length
 ·e1;d4
 d9;r U1 (b:=b) (e:=e) (rf:=λa:Bytes×%g=>a.2) (g:=λa=>&0h4 {y.R with signals:=y.R.signals++[a.1]}) hc (bw (d:=r0+6) (ns:=y.R.signals) G hmj L rfl rfl rfl rfl G.ne.sig %w %w rfl) ?_;c2;b0;r⟨_,pre1,Ma (nm:=%3H) (ls:=ls) (c:=1) (R:=y.R) (cnt:=y.R.signals.length) (cd':=CG 1 {y.R with signals:=y.R.signals++[a]}) ?_ ?_ rfl ?_,?_,?_⟩
 ·K;Q
 ·V
 ·u CG;s[XM];a
 ·f0
 ·c3;r⟨m,by s[List.length_set];e hlen,?_,{s7:=(by show 4<7;decide),h6:=λz=>absurd hhn z,m2:=λ_=>(by show 2≤4;decide),no:=Y.no}⟩;U;r G1.next (R':={y.R with signals:=y.R.signals++[a]}) ⟨rk.nva,rk.nmi,rk.nti,by simp;omega,rk.nmo,rk.vnm,rk.tnm,HY rk.snm hin,rk.mnm⟩ rfl ?_ ?_ ?_ ?_ ?_ ?_ ?_ ?_
  ·d3;k;e q
  ·d2;F;Q
  ·c6;V
  ·k;e G1.ne.var
  ·k;e G1.ne.tim
  ·F;e Aq G1.ne.sig
  ·k;e G1.ne.mod
  ·k;e G1.st
%tiN(G:RG r0 sh T B SP m 1 %3H ls y.R h)(Y:RY y)(hb:∀i,^C→m≤i∧i<h.length)(L:%4Rb h j l e)(hs:y.sort≤5):
 Sim ((fin (rlT (%7h&3V) h)).bind λ_ h1=>^Q) (if MODES≤y.R.modes.length then %1P else %7Iy.R.modes l>>= λa=>%3h>>= λ_=>%1H5 {y.R with modes:=y.R.modes++[a.1]}) (QL r0 sh T B SP):=by
 b8;d6;h hc:=Mb (j:=j) (key:="mode") (cnt:=y.R.modes.length) (lim:=15) G rfl rfl;h nmi:=G.rk.nmo;rw[show MODES=15 from rfl];e4;by_cases q:15≤y.R.modes.length
 ·e1;d4
 d9;r U1 (b:=b) (e:=e) (rf:=λa:Bytes×%g=>a.2) (g:=λa=>&0h5 {y.R with modes:=y.R.modes++[a.1]}) hc (bw (d:=r0+7) (ns:=y.R.modes) G hmj L rfl rfl rfl rfl G.ne.mod %w %w rfl) ?_;c2;b0;r⟨_,pre1,Ma (nm:=%3H) (ls:=ls) (c:=1) (R:=y.R) (cnt:=y.R.modes.length) (cd':=CG 1 {y.R with modes:=y.R.modes++[a]}) ?_ ?_ rfl ?_,?_,?_⟩
 ·K;Q
 ·V
 ·u CG;s[XM];a
 ·f0
 ·c3;r⟨m,by s[List.length_set];e hlen,?_,{s7:=(by show 5<7;decide),h6:=λz=>absurd hhn z,m2:=λ_=>(by show 2≤5;decide),no:=Y.no}⟩;U;r G1.next (R':={y.R with modes:=y.R.modes++[a]}) ⟨rk.nva,rk.nmi,rk.nti,rk.nsi,by simp;omega,rk.vnm,rk.tnm,rk.snm,HY rk.mnm hin⟩ rfl ?_ ?_ ?_ ?_ ?_ ?_ ?_ ?_
  ·d3;k;e q
  ·d2;F;Q
  ·c6;V
  ·k;e G1.ne.var
  ·k;e G1.ne.tim
  ·k;e G1.ne.sig
  ·F;e Aq G1.ne.mod
  ·k;e G1.st
end
section
variable{r0 sh j e n m c:Nat}{nm ls:W}{T:Table}{B:Book}{SP:O}{R R':Rules}{h h':List O}{b:Nat→Prop}{pre l r:List Word}{w:Word}{y:RHad}
%tqg(G:RG r0 sh T B SP m 1 %3H ls y.R h)(TK:^o)(Y:RY y)(hb:∀i,^C→m≤i∧i<h.length)(L:%4Rb h j l e):
 Sim ((fin (rlT (%7h(some %3R)) h)).bind λ_ h1=>^Q) (if HANDLERS≤y.R.handlers.length∨%6Y=true then %1P else Jw T y.R e l>>= λa=>%3h>>= λ_=>%1H6 {y.R with handlers:=y.R.handlers++[a.1]}) (QL r0 sh T B SP):=by
 b8;h hc:=Mb (j:=j) (key:="on") (cnt:=y.R.handlers.length) (lim:=256) G rfl rfl;h nh:=G.nh;rw[show HANDLERS=256 from rfl];by_cases q:256≤y.R.handlers.length∨%6Y=true
 ·a5
  h:(decide (y.R.handlers.length=256)||lastEmpty y.R)=true:=by
   rcases q with z|z
   ·rw[decide_eq_true %w];a
   ·rw[z,Bool.or_true]
  rw[this] at hc;d4
 R
 h le0:%6Y=false:=by
  cases z:%6Y with
  |false=>rfl
  |true=>e absurd (.inr z) q
 rw[le0,Bool.or_false,decide_eq_false (λz=>q &1z)] at hc;r U1 (b:=b) (e:=e) (rf:=λa:Handler×%g=>a.2) (g:=λa=>&0h6 {y.R with handlers:=y.R.handlers++[a.1]}) hc (tL G TK hmj L) ?_;rintro⟨a,ar⟩ v h2 ⟨h1,pre1,k,qs',kp,L1,hk1,e2,e3,hok,hde,q1',rfl⟩;h G1:=&0Tkp;o⟨qs,q1,q2,q3,q4⟩:=G1.hl
 h hqs:qs'=qs:=by
  rw[q1'] at q1;s[Option.some.injEq,O.lst.injEq] at q1
  h inj:∀(xs ys:%r),xs.map W.ref=ys.map W.ref→xs=ys:=by
   intro xs
   induction xs with
   |nil=>intro ys z;cases ys with
    |nil=>rfl
    |cons y ys=>simp at z
   |cons x xs ih=>intro ys z;cases ys with
    |nil=>simp at z
    |cons y ys=>
     v7
  e inj _ _ q1
 subst hqs;b0;h hmh:m≤h.length:=by h:=%0Z.2;omega
 h hkl:k+1<h1.length:=Bo e3;r⟨_,pre1,Ma (nm:=%3H) (ls:=ls) (c:=1) (R:=y.R) (cnt:=y.R.handlers.length) (cd':=CG 1 {y.R with handlers:=y.R.handlers++[a]}) ?_ ?_ rfl ?_,?_,?_⟩
 ·K;Q
 ·V
 ·u CG;s[XM];a
 ·f0
 ·r⟨h1.length,by s[List.length_set];e %L,?_,{s7:=(by show 6<7;decide),h6:=λ_=>rfl,m2:=λ_=>(by show 2≤6;decide),no:=Y.no}⟩;U
  h lo:∀{i:Nat} {o:O},i≠r0→i≠r0+1→i≠r0+9→h1[i]? =%b→(((h1.set (r0+9) (.lst ((qs'++[k]).map .ref))).set (r0+1) (.dct (CG 1 {y.R with handlers:=y.R.handlers++[a]}))).set r0 (%8B%3H%3R))[i]? =%b:=λh1 h2 h3 q=>by
   k;e q
  h shl:=G.ne.shl;r{ne:=⟨λi hi=>%7o(G1.ne.tab i hi),%7oG1.ne.shw,%7oG1.ne.nms,%7oG1.ne.var,%7oG1.ne.tim,%7oG1.ne.sig,%7oG1.ne.mod,r11,shl⟩,rk:=⟨rk.nva,rk.nmi,rk.nti,rk.nsi,rk.nmo,rk.vnm,rk.tnm,rk.snm,rk.mnm⟩,ob:=?_,cn:=?_,st:=%7oG1.st,sp:=%7oG1.sp,hm:=%w,nh:=?_,ho:=HY G.ho {ev:=hok.ev,mo:=hok.mo,nd:=by show a.deeds.length≤32;rw[show a.deeds=[] from hde];e #q,dl:=by rw[show a.deeds=[] from hde];intro d hd;cases hd},hl:=⟨qs'++[k],?_,⟨?_,?_⟩,?_,?_⟩}
  ·d2;F;Q
  ·c6;V
  ·s[XM];h:¬256≤y.R.handlers.length:=λz=>q %8x;b
  ·F;e Aq q1'
  ·s[XM];rw[q2.1]
  ·intro i q' hd' e1 e4;by_cases hi:i<qs'.length
   ·rw[List.getElem?_append_left hi] at e1;rw[List.getElem?_append_left (by rw[←q2.1];e hi)] at e4;h hq:=q3 q' &5T;o⟨a1,a2⟩:=q2.2 i q' hd' e1 e4;e⟨lo %w %w %w a1,%7oa2⟩
   ·h hlt:=(List.getElem?_eq_some_iff.mp e1).1;h hi:i=qs'.length:=by s[XM] at hlt;omega
    subst hi;rw[List.getElem?_append_right %L] at e1;rw[q2.1,List.getElem?_append_right %L] at e4;simp at e1 e4;subst e1;subst e4;r⟨lo %w %w %w e2,%7o?_⟩;rw[e3,show a.deeds=[] from hde];a
  ·intro q' hq';rcases List.mem_append.mp hq' with z|z
   ·h:=q3 q' z;e⟨this.1,%w⟩
   ·rw[List.mem_singleton] at z;y;e⟨%w,hkl⟩
  ·rw[List.pairwise_append];r⟨q4,List.pairwise_singleton _ _,λx hx z hz=>?_⟩;rw[List.mem_singleton] at hz;subst hz;h:=q3 x hx;b
%teV(G:RG r0 sh T B SP m 0 &0e .non noRules h)(hb:∀i,^C→m≤i∧i<h.length)(L:%4Rb h j l e):
 Sim ((fin (rlT (%7h(some %3L)) h)).bind λ_ h1=>^Q) (newName e [] l>>= λa=>%3h>>= λ_=>%1H0 {noRules with name:=a.1}) (QL r0 sh T B SP):=by
 b8;h hc:=Mb (j:=j) (key:="rules") (cnt:=0) (lim:=1) G rfl rfl;h hc:rlC (%7h(some %3L)) h=%sfalse:=hc;r U1 (b:=b) (e:=e) (rf:=λa:Bytes×%g=>a.2) (g:=λa=>&0h0 {noRules with name:=a.1}) hc (mj G hmj L) ?_;c2;b0;h ob1:(h1.set r0 (%8B(%Za) .non))[r0]? =some (%8B(%Za) .non):=Aq G1.ob;r⟨_,pre1,Ma (nm:=%Za) (ls:=.non) (c:=0) (R:=noRules) (cnt:=0) (cd':=CG 1 {noRules with name:=a}) ?_ ?_ rfl rfl,?_,?_⟩
 ·e ob1
 ·V
 ·f0
 ·c3;r⟨m,by s[List.length_set];e hlen,?_,{s7:=(by show 0<7;decide),h6:=λz=>^Uz,m2:=λz=>^Uz,no:=hin}⟩;r G1.next (R':={noRules with name:=a}) ⟨#q,#q,#q,#q,#q,(λ_ z=>by c z),(λ_ z=>by c z),(λ_ z=>by c z),(λ_ z=>by c z)⟩ rfl ?_ ?_ ?_ ?_ ?_ ?_ ?_ ?_
  ·d3;k;e q
  ·r Aq (o:=%8B(%Za) .non) ?_;K;e ob1
  ·K;r Aq (o:=^m) ?_;V
  ·k;e G1.ne.var
  ·k;e G1.ne.tim
  ·k;e G1.ne.sig
  ·k;e G1.ne.mod
  ·k;e G1.st
%dqh(T:Table)(B:Book)(y:RHad)(e:Nat)(w:Word)(s:Nat)(l:%g):#w%5n:=
 if s=1 then(if VARS≤y.R.vars.length then %1P else Kf y.R e l>>= λa=>%3h>>= λ_=>%1H1 {y.R with vars:=y.R.vars++[a.1]})
 else if s=2 then(if MINES≤y.R.mines.length then %1P else Kf y.R e l>>= λa=>%3h>>= λ_=>%1H2 {y.R with mines:=y.R.mines++[a.1]})
 else if s=3 then(if TIMERS≤y.R.timers.length then %1P else %7Iy.R.timers l>>= λa=>%3h>>= λ_=>%1H3 {y.R with timers:=y.R.timers++[a.1]})
 else if s=4 then(if SIGNALS≤y.R.signals.length then %1P else %7Iy.R.signals l>>= λa=>%3h>>= λ_=>%1H4 {y.R with signals:=y.R.signals++[a.1]})
 else if s=5 then(if MODES≤y.R.modes.length then %1P else %7Iy.R.modes l>>= λa=>%3h>>= λ_=>%1H5 {y.R with modes:=y.R.modes++[a.1]})
 else(if HANDLERS≤y.R.handlers.length∨%6Y=true then %1P else Jw T y.R e l>>= λa=>%3h>>= λ_=>%1H6 {y.R with handlers:=y.R.handlers++[a.1]})
%tfm:RSORTS=RS7++[ascii "do",%5j]:=rfl
%tPf:ruleLine T B none ⟨l,e⟩=((next e l>>= λx=>if&1S.contains x.1.w=true then %1M else &2w3)>>= λx=>%7I[]x.2>>= λa=>%3h>>= λ_=>%1H0 {noRules with name:=a.1}):=by
 rw[AE];u ruleLine;n;funext x
 h e1:&1S.contains x.1.w=decide (x.1.w=ascii "rules"):=by
  rw[show &1S=[ascii "rules"] from rfl];simp[List.contains_cons]
 A;by_cases q:x.1.w=ascii "rules"
 ·s[if_pos q,%9a,if_true,ex_map,newIn,AE,pure_bind]
 ·s[if_neg q,&1x,Bool.false_eq_true,if_false];a
%tWe(hy:y.sort<7)(hw:w.w=&0K∨w.w=%5j):ruleLine T B %4g ⟨w::r,e⟩=(au T B y.R e w r>>= λR'=>%1H6 R'):=by
 u ruleLine;show(next e (w::r)>>= _)=_;rw[show next e (w::r)=.ok (w,r) from rfl,okE]
 h hk:∃k,RSORTS.findIdx? (λn=>n==w.w)=some (k+7)∧k<2∧decide (w.w=%5j)=(k+7==8):=by
  rcases hw with z|z
  ·e⟨0,by rw[z];decide+kernel,by decide,by rw[z];decide+kernel⟩
  ·e⟨1,by rw[z];decide+kernel,by decide,by rw[z];decide+kernel⟩
 o⟨k,hf,hk2,hdw⟩:=hk;s[hf,Option.getD_some];rw[if_neg (by rintro(z|z)<;>omega)];u au;rw[hdw];h D:DEEDS=32:=rfl
 cases y.R.handlers.getLast? with
 |none=>rfl
 |some v=>
  s[D];by_cases q:32≤v.deeds.length
  ·s[if_pos q];a
  ·s[if_neg q,AE,pure_bind]
%tWc(hy:y.sort<7)(hw:∀w r,l=w::r→w.w≠&0K∧w.w≠%5j):ruleLine T B %4g ⟨l,e⟩=((next e l>>= λx=>if(RS7.drop (max y.sort 1)).contains x.1.w=true then %1M else &2w3)>>= λx=>qh T B y e x.1 ((RS7.findIdx? λn=>n==x.1.w).getD 0) x.2):=by
 rw[AE];u ruleLine
 cases l with
 |nil=>rfl
 |cons w r=>
  o⟨hw1,hw2⟩:=hw w r rfl;show(next e (w::r)>>= _)=(next e (w::r)>>= _);rw[show next e (w::r)=.ok (w,r) from rfl,okE,okE]
  h hf2:RSORTS.findIdx? (λn=>n==w.w)=RS7.findIdx? λn=>n==w.w:=by
   rw[fm,List.findIdx?_append]
   h:([ascii "do",%5j]:#s).findIdx? (λn=>n==w.w)=none:=by
    rw[List.findIdx?_eq_none_iff];Y;s[List.mem_cons,List.not_mem_nil,or_false] at hx;rcases hx with z|z<;>subst z
    ·simpa using Ne.symm hw1
    ·simpa using Ne.symm hw2
   l;i
  s[hf2];z3
  ·s[hf,Option.getD_some];rw[hk];h hi:i<7:=hi;by_cases q:max y.sort 1≤i
   ·rw[if_neg (by rintro(z|z)<;>omega),if_pos %9a,pure_bind];h hz:i=1∨i=2∨i=3∨i=4∨i=5∨i=6:=%w;u qh;rcases hz with z|z|z|z|z|z<;>subst z
    ·s[if_true,WZ,AE,pure_bind,hf,Option.getD_some]
    ·s[if_true,Nat.reduceEqDiff,if_false,WZ,AE,pure_bind,hf,Option.getD_some]
    ·k0
    ·k0
    ·k0
    ·s[Nat.reduceEqDiff,if_false,Z7,AE,pure_bind,hf,Option.getD_some]
   ·rw[if_pos %w,if_neg (by simpa using q)];a
  ·s[hf,Option.getD_none];rw[hk,if_pos (.inl trivial)];a
end
section
variable{r0 sh j e n m c:Nat}{nm ls:W}{T:Table}{B:Book}{SP:O}{R R':Rules}{h h':List O}{b:Nat→Prop}{pre l r:List Word}{w:Word}{y:RHad}
%drsR(s:%5n):Rules:=match s with
 |none=>noRules
 |some y=>y.R
%dlsW(s:%5n):W:=match s.map RHad.sort with
 |none=>.non
 |some i=>%Z(RS7.getD i [])
%tpx{s:%5n}(G:RSt r0 sh T B SP m s h):∃c nm,RG r0 sh T B SP m c nm (lsW s) (rsR s) h:=by
 cases s with
 |none=>e⟨_,_,G⟩
 |some y=>e⟨_,_,G.1⟩
%tbt{s:%5n}{G:FS}(RGs:RSt r0 sh T B SP m s h)(L:&k)(hw:∀w r,l=w::r→w.w≠&0K∧w.w≠%5j):(&e(#G(fOr (fB (%3X2 AY 1(%C"do"))) (fB (%3X2 AY 1(%C"when"))))(Ag (AI (#v2 B4 0 1)) Tv))(AU 2 (%3O3 CB 1(%1R(%5o[%3L,%8c,%7X,%1h,%0w,%0d,%3R])(%X"last_sort"))))G) [some #f,%H,none] h=
 (CB [&g,.ktp (RS7.map λs=>%1r),(match s.map RHad.sort with|none=>.non|some i=>%Z(RS7.getD i []))] h).st λv h1=>G (%7h%W) h1:=by
 o⟨c,nm,RGg⟩:=px RGs;h gl:%4H"last_sort"h=%s(match s.map RHad.sort with|none=>.non|some i=>%Z(RS7.getD i [])):=RGg.ob.ga rfl
 h n1:AY [&g,.str "do"] h=^A:=by
  rw[Fo L]
  cases l with
  |nil=>rfl
  |cons w r=>
   have:=(hw w r rfl).1;rw[←show S &0K="do" from lit];s[LK,decide_eq_false this]
 h n2:AY [&g,.str "when"] h=^A:=by
  rw[Fo L]
  cases l with
  |nil=>rfl
  |cons w r=>
   have:=(hw w r rfl).2;rw[←show S %5j="when" from lit];s[LK,decide_eq_false this]
 generalize hF:CB=F;generalize B4=A;rw[tK];xm [L.mth,n1,n2,gl]
%tbu{G:FS}(L:&1yb(w::r))(hw:w.w=&0K∨w.w=%5j):(Ag (#G(fOr (fB (%3X2 AY 1(%C"do"))) (fB (%3X2 AY 1(%C"when"))))(Ag (AI (#v2 B4 0 1)) Tv)) G) [some #f,%H,none] h=
 (B4 %9q h).st λv h1=>.rt .non h1:=by
 generalize B4=A
 h e1:∀{s:String} {x:Str},S &2u=x→AY [&g,%0J] h=&K(decide (w.w=&2u)):=by
  intro s x hx;subst hx;rw[Fo L];s[LK]
 h n1:=e1 (s:="do") (x:="do") lit;h n2:=e1 (s:="when") (x:="when") lit;by_cases q:w.w=&0K
 ·xm [L.mth,n1,%9a]
 ·h q2:w.w=%5j:=hw.resolve_left q;xm [L.mth,n1,&1x,n2,decide_eq_true q2]
%tmm{s:%5n}(G:RSt r0 sh T B SP m s h)(TK:^o)(hB:B.length≤32)(hb:∀i,^C→m≤i∧i<h.length)(L:LA b h j [] l e):
 Sim ((EJ %9q h).bind λ_ h1=>^Q) (ruleLine T B s ⟨l,e⟩) (QL r0 sh T B SP):=by
 h e0:EJ %9q h=fin (Oj (%7hnone) h):=by u EJ;rw[Cg];rfl
 rw[e0,oB];h hmj:m≤j:=%0Z.1;h hmh:m≤h.length:=by h:=%0Z.2;omega
 by_cases hdw:∃w r,l=w::r∧(w.w=&0K∨w.w=%5j)
 ·o⟨w,r,rfl,hw⟩:=hdw;rw[bu L hw,VH,LH];s[kf,A3]
  cases s with
  |none=>
   have G:RG r0 sh T B SP m 0 &0e .non noRules h:=G;h H:=WO G TK hB hb L;h e1:au T B noRules e w r=%1P:=rfl
   h e2:ruleLine T B none ⟨w::r,e⟩=%1P:=by
    rw[Pf];show((if&1S.contains w.w=true then _ else _)>>= _)=_;rw[if_neg]
    ·a
    ·rw[show &1S=[ascii "rules"] from rfl];rcases hw with z|z<;>rw[z]<;>decide+kernel
   rw[e1] at H;rw[e2]
   e H
  |some y=>
   o⟨G,Y⟩:=G;rw[We Y.s7 hw];r(WO G TK hB hb L).toPure ?_;rintro R' v h2 ⟨G2,hnm,hne,hml⟩;h hs6:=Y.h6 hne;rw[hs6,←hnm] at G2;e⟨m,hml,G2,{s7:=(by show 6<7;decide),h6:=λ_=>rfl,m2:=λ_=>(by show 2≤6;decide),no:=by show isName R'.name=true;rw[hnm];e Y.no}⟩
 ·h hw:∀w r,l=w::r→w.w≠&0K∧w.w≠%5j:=λw r z=>⟨λq=>hdw ⟨w,r,z,%6l⟩,λq=>hdw ⟨w,r,z,.inr q⟩⟩;rw[bt G L hw,VH,LH]
  h ss:=Zg (ss:=RS7) (bf:=s.map RHad.sort) L (by decide) (λi hi=>by
   cases s with
   |none=>c hi
   |some y=>c hi;e G.2.s7) SH
  cases s with
  |none=>
   have G:RG r0 sh T B SP m 0 &0e .non noRules h:=G;rw[Pf];r %Qss;g0;h hc:&1S.contains w.w=true:=hc;rw[show &1S=[ascii "rules"] from rfl] at hc
   h hwr:S w.w="rules":=by
    h:w.w=ascii "rules":=by simpa using hc
    l;e lit
   s[hwr]
   e eV (pre:=[]) &3U (λi hi=>by rw[s1.1];e hb i hi) L1
  |some y=>
   o⟨G,Y⟩:=G;rw[Wc Y.s7 hw];r %Qss;g0;h hc:(RS7.drop (max y.sort 1)).contains w.w=true:=hc;h G1:=&3U;h hb1:∀i,^C→m≤i∧i<h1.length:=λi hi=>by rw[s1.1];e hb i hi
   z3
   ·h hi:i<7:=hi;rw[hk,decide_eq_true_eq] at hc;s[hf,Option.getD_some];h hz:i=1∨i=2∨i=3∨i=4∨i=5∨i=6:=%w;u qh;rcases hz with z|z|z|z|z|z<;>subst z
    ·h hS:S w.w="var":=by rw[hwi];e lit
     s[hS,if_true];e l7 (pre:=[]) G1 Y hb1 L1 %w
    ·h hS:S w.w="mine":=by rw[hwi];e lit
     g5;e iO (pre:=[]) G1 Y hb1 L1 %w
    ·h hS:S w.w="timer":=by rw[hwi];e lit
     g5;e eU (pre:=[]) G1 Y hb1 L1 %w
    ·h hS:S w.w="signal":=by rw[hwi];e lit
     g5;e bj (pre:=[]) G1 Y hb1 L1 %w
    ·h hS:S w.w="mode":=by rw[hwi];e lit
     g5;e iN (pre:=[]) G1 Y hb1 L1 %w
    ·h hS:S w.w="on":=by rw[hwi];e lit
     s[hS,Nat.reduceEqDiff,if_false];e qg (pre:=[]) G1 TK Y hb1 L1
   ·rw[hk] at hc;c hc
end
section
variable{H L:List O}{st sh:Nat}{σ:Sa}
%dstD(sh:Nat):&u:=[(.inr "switch",.ref 1),(.inr "lamp",%7y),(.inr "coil",.ref 3),(.inr "device",.ref 6),(.inr "show",&2y)]
%dStO(H:%a)(st sh:Nat):Prop:=H[st]? =some (.ins "Setting" [("table",#I),("names",.ref (st+1))])∧H[st+1]? =#g(stD sh)
%tVF{k:Nat}:(H++L)[H.length+k]? =L[k]?:=by rw[List.getElem?_append_right (Nat.le_add_right ..),Nat.add_sub_cancel_left]
%tsetAt{k:Nat}{o:O}:(H++L).set (H.length+k) o=H++L.set k o:=by rw[List.set_append_right _ _ (Nat.le_add_right ..),Nat.add_sub_cancel_left]
%tpE{xs:%m}:El [] (H++L)=%D(H.length+L.length)(H++(L++[.lst []])):=by
 s[El,List.length_nil,Nat.zero_le,if_true,List.length_append,List.append_assoc]
%tsa0{f:Str}{v:W}{c:Str}{fs:%3S}{r:%a}(hl:fs.length<1000):Fj f v #H (H++.ins c fs::r)=#z(H++.ins c (bz f v fs)::r):=by
 rw[Eb OH hl,&4D]
%dkP:%9n:=[((%C"rules"),&W),((%C"var"),&W),((%C"mine"),&W),((%C"timer"),&W),(&6N,&W),(&0H,&W),((%C"on"),&W)]
%dfR:%9n:=[(%6V,Gb),((%C"timer"),Gb),(&6N,Gb),(&0H,Gb)]
%tku:Hn kP σ (H++L)=%D(H.length+L.length)(H++(L++[.dct (CG 0 noRules)])):=by
 h e1:N8 kP σ (H++(L++[.dct []]))=.ok [(.str "rules",#r),(.str "var",#r),(.str "mine",#r),(.str "timer",#r),(.str "signal",#r),(.str "mode",#r),(.str "on",#r)] (H++(L++[.dct []])):=rfl;h e2:(H++(L++[O.dct []]))[H.length+L.length]? =some %l:=by rw[VF];simp
 h e3:(H++(L++[O.dct []])).set (H.length+L.length) ^m=H++(L++[.dct (CG 0 noRules)]):=by rw[setAt];simp
 z4;rw[←e3];a
%tkr:Hn fR σ (H++L)=%D(H.length+L.length)(H++(L++[.dct [(.inr "variable",.ref (H.length+L.length+1)),(.inr "timer",.ref (H.length+L.length+2)),(.inr "signal",.ref (H.length+L.length+3)),(.inr "mode",.ref (H.length+L.length+4))],%l,%l,%l,%l])):=by
 h nd:∀(M:%a),ZE (H++(L++M))=%D(H.length+L.length+M.length)(H++(L++(M++[.dct []]))):=by
  intro M;s[ZE,List.length_append,List.append_assoc,Nat.add_assoc]
 h e1:N8 fR σ (H++(L++[.dct []]))=.ok [(.str "variable",.ref (H.length+L.length+1)),(.str "timer",.ref (H.length+L.length+2)),(.str "signal",.ref (H.length+L.length+3)),(.str "mode",.ref (H.length+L.length+4))] (H++(L++[.dct [],%l,%l,%l,%l])):=by
  s[fR,N8,fC,A3,Gb,nd,List.length_cons,List.length_nil,List.cons_append,List.nil_append,Nat.zero_add,Nat.reduceAdd]
 h e2:(H++(L++[O.dct [],%l,%l,%l,%l]))[H.length+L.length]? =some %l:=by rw[VF];simp
 z4;show(if _ then Res.ok (W.ref (H.length+L.length)) ((H++(L++[O.dct [],%l,%l,%l,%l])).set (H.length+L.length) _) else _)=_;rw[setAt];i;a
%toC:HI=Ag (&p"table"(%3u"table")) (&e(&p"name"(%C""))(&p"last_sort"%1G)(%3p(&p"counts"(Hn kP))(&p"names"(%1AOz(%3u"names")))(AI (fDM fJ %0e (%1Z(Hn fR))))(&p"starts"%1w)(&p"handlers"%1w))):=rfl
%dR7(r0:Nat):&u:=[(.inr "variable",&3A),(.inr "timer",.ref (r0+5)),(.inr "signal",.ref (r0+6)),(.inr "mode",.ref (r0+7))]
%dHj(r0 sh:Nat):%a:=[.ins "Rules" #J,^m,%9S,%5z,%l,%l,%l,%l,%M,%M]
%teZ(S0:StO H st sh):CF [#H,%6k] (H++[.ins "Rules" []])=#t(H++%3r):=by
 o⟨s0,s1⟩:=S0;h lt0:=Bo s0;h lt1:=Bo s1;h g0:∀{M:%a},(H++M)[st]? =some (.ins "Setting" [("table",#I),("names",.ref (st+1))]):=by intro M;rw[List.getElem?_append_left lt0];e s0
 h g1:∀{M:%a},(H++M)[st+1]? =#g(stD sh):=by intro M;rw[List.getElem?_append_left lt1];e s1
 h e0:CF [#H,%6k] (H++[.ins "Rules" []])=fin (HI [%4E,%est] (H++[.ins "Rules" []])):=by u CF;rw[Cg];rfl
 rw[e0,oC];generalize hr:H.length=r0;h gt:∀{M:%a},BN "table" %6k (H++M)=%D0(H++M):=λ{M}=>%3Cg0;h gn:∀{M:%a},BN "names" %6k (H++M)=%D(st+1)(H++M):=λ{M}=>%3Cg0;h a1:Fj "table" #I #f (H++[.ins "Rules" []])=#z(H++[.ins "Rules" (#J.take 1)]):=by rw[←hr,sa0 (by simp)];rfl
 h a2:Fj "name" &0e #f (H++[.ins "Rules" (#J.take 1)])=#z(H++[.ins "Rules" (#J.take 2)]):=by rw[←hr,&2T];rfl
 h a3:Fj "last_sort" .non #f (H++[.ins "Rules" (#J.take 2)])=#z(H++[.ins "Rules" (#J.take 3)]):=by rw[←hr,&2T];rfl
 h d1:∀{σ:Sa},Hn kP σ (H++[.ins "Rules" (#J.take 3)])=%D(r0+1)(H++[.ins "Rules" (#J.take 3),^m]):=by
  intro σ;rw[ku,hr];a
 h a4:Fj "counts" &0D #f (H++[.ins "Rules" (#J.take 3),^m])=#z(H++[.ins "Rules" (#J.take 4),^m]):=by rw[←hr,&2T];rfl
 h d2:Oz [.ref (st+1)] (H++[.ins "Rules" (#J.take 4),^m])=%6j(H++[.ins "Rules" (#J.take 4),^m,%1o]):=by
  s[Oz,C6 g1,List.length_append,List.append_assoc,List.cons_append,List.nil_append,List.length_cons,List.length_nil,hr]
 h a5:Fj "names" ^q #f (H++[.ins "Rules" (#J.take 4),^m,%1o])=#z(H++[.ins "Rules" (#J.take 5),^m,%1o]):=by rw[←hr,&2T];rfl
 h gr:%7l(H++[.ins "Rules" (#J.take 5),^m,%1o])=%6j(H++[.ins "Rules" (#J.take 5),^m,%1o]):=by
  rw[←hr];e %3COH
 h gd:Ho ^q (H++[.ins "Rules" (#J.take 5),^m,%1o])=some (stD sh):=by
  r C6 ?_;rw[←hr,VF];a
 h d3:∀{σ:Sa},Hn fR σ (H++[.ins "Rules" (#J.take 5),^m,%1o])=%D(r0+3)(H++[.ins "Rules" (#J.take 5),^m,%1o,%5z,%l,%l,%l,%l]):=by
  intro σ;rw[kr,hr];a
 h d4:fJ ^q [.ref (r0+3)] (H++[.ins "Rules" (#J.take 5),^m,%1o,%5z,%l,%l,%l,%l])=#t(H++[.ins "Rules" (#J.take 5),^m,%9S,%5z,%l,%l,%l,%l]):=by
  h h2:(H++[O.ins "Rules" (#J.take 5),^m,%1o,%5z,%l,%l,%l,%l])[r0+2]? =#g(stD sh):=by rw[←hr,VF];rfl
  h h3:(H++[O.ins "Rules" (#J.take 5),^m,%1o,%5z,%l,%l,%l,%l])[r0+3]? =#g(R7 r0):=by rw[←hr,VF];rfl
  s[fJ,h2,h3];rw[if_pos ⟨%w,by show 5+4≤sizeLine;decide⟩];rw[←hr,setAt];a
 h n1:El [] (H++[.ins "Rules" (#J.take 5),^m,%9S,%5z,%l,%l,%l,%l])=%D(r0+8)(H++[.ins "Rules" (#J.take 5),^m,%9S,%5z,%l,%l,%l,%l,%M]):=by
  rw[pE (xs:=[]),hr];a
 h a6:Fj "starts" (.ref (r0+8)) #f (H++[.ins "Rules" (#J.take 5),^m,%9S,%5z,%l,%l,%l,%l,%M])=#z(H++[.ins "Rules" (#J.take 6),^m,%9S,%5z,%l,%l,%l,%l,%M]):=by rw[←hr,&2T];rfl
 h n2:El [] (H++[.ins "Rules" (#J.take 6),^m,%9S,%5z,%l,%l,%l,%l,%M])=%9H(H++[.ins "Rules" (#J.take 6),^m,%9S,%5z,%l,%l,%l,%l,%M,%M]):=by
  rw[pE (xs:=[]),hr];a
 h a7:Fj "handlers" &3C #f (H++[.ins "Rules" (#J.take 6),^m,%9S,%5z,%l,%l,%l,%l,%M,%M])=#z(H++Hj r0 sh):=by rw[←hr,&2T];rfl
 generalize Hn kP=D1 at d1 ⊢;generalize Hn fR=D2 at d3 ⊢;xr [gt,a1,a2,a3,d1,a4,gn,d2,a5,fDM,gr,gd,d3,d4,n1,a6,n2,a7]
%tbr{x:W}{r:FA}(S0:StO H st sh)(hr:r σ H=.ok [.ref st] H):Cu "Rules" 2 CF r σ H=&2k(H++%3r):=by
 h:∀F:FF,F [#H,%6k] (H++[.ins "Rules" []])=#t(H++%3r)→Cu "Rules" 2 F r σ H=&2k(H++%3r):=by
  j9
 e this _ (eZ S0)
end
section
variable{H:List O}{st sh n:Nat}{T:Table}{B:Book}{bs:Bytes}
%drb:FS:=Ag (AI (#v2 EJ 2 4)) (AI (&E"finish"1 BD 4 Ad))
%tkY:Mv=%3p(%5Q(%0A(%4c1)&W)AF 1%5w)(AU 2 (Cu "Rules" 2 CF (#b0)))(%0P(iL (#UCs 1))3(#F4(#v2 BF 1 3)rb))(%0W(fB (Ao "Rules" "wants_action" 1 BU &j Ad))9(%4c1))(Bz &j):=rfl
%dJR(r0 sh st:Nat)(T:Table)(B:Book)(bs:Bytes)(p:Nat)(s:%5n)(τ:Sa)(h:%a):Prop:=(∃x3 x4,τ=[some %6k,#k,%1x,x3,x4])∧(∃m,m≤h.length∧RSt r0 sh T B %7w m s h)∧(0<p→s≠none)
%toS{r0:Nat}{SP:O}{s:%5n}{l:Line}{s':%5n}(h:ruleLine T B s l=.ok s'):s'≠none:=by
 X;u ruleLine at h
 cases hn:next l.end_ l.words with
 |error F=>rw[hn] at h;c h
 |ok x=>
  rw[hn,okE] at h
  cases s with
  |none=>
   simp only at h;L
   ·rw[ex_map] at h
    cases hq:newIn l.end_ [] x.2 with
    |error F=>rw[hq] at h;c h
    |ok a=>rw[hq] at h;c h
   ·c h
  |some y=>
   simp only at h;L
   ·c h
   ·L
    all_goals first
     |(split at h
       ·c h
       ·first
        |(generalize newVar y.R l.end_ x.2=q at h;c q<;>c h)
        |(generalize newIn l.end_ y.R.timers x.2=q at h;c q<;>c h)
        |(generalize newIn l.end_ y.R.signals x.2=q at h;c q<;>c h)
        |(generalize newIn l.end_ y.R.modes x.2=q at h;c q<;>c h)
        |(generalize handlerWords T y.R l.end_ x.2=q at h;c q<;>c h)
        |(split at h
          ·c h
          ·generalize deedWords T B y.R l.end_ _ x.2=q at h;c q<;>c h))
%tfk{r0:Nat}(TK:^o)(hB:B.length≤32)(hl:bs.length≤65536)(s:%5n)(τ:Sa)(h:%a)(a l c:Bytes)(hb:bs=a++l++c)(hJ:JR r0 sh st T B bs a.length s τ h):
 Dq (Ag (AU 4 (#v2 BF 1 3)) rb (τ.set 3 &5w) h) (HZ (ruleLine T B) s a l c) (λs' r=>∃τ' h',r=.nx τ' h'∧JR r0 sh st T B bs (a.length+l.length+1) s' τ' h'):=by
 o⟨⟨x3,x4,rfl⟩,⟨m,hm,G⟩,_⟩:=hJ;r Qb hb hl rfl rfl ?_;rintro j h' ⟨g,rfl⟩ L
 h G0:RSt r0 sh T B %7w m s (h++g):=by
  h k:Kp (h++g).length h (h++g):=Kp.app;h hml:m≤(h++g).length:=by rw[List.length_append];omega
  cases s with
  |none=>e RG.kp G k hml
  |some y=>e⟨G.1.kp k hml,G.2⟩
 h L0:=L.rng;h hbn:∀i,(gE h.length i∧i<(h++g).length)→m≤i∧i<(h++g).length:=λi hi=>⟨Nat.le_trans hm hi.1,hi.2⟩;h Hs:=mm G0 TK hB hbn L0;show Dq (rb [%est,#k,%1x,_,%H] (h++g)) _ _
 h e1:∀{x3:&F},rb [%est,#k,%1x,x3,%H] (h++g)=((EJ %9q (h++g)).bind λ_ h1=>^Q).st λ_ h2=>.nx [%est,#k,%1x,x3,%H] h2:=by
  intro x3;rw[←aY];u rb;generalize EJ=F;xr []
 A
 cases hs:ruleLine T B s (&2O%0p) with
 |error F=>
  rw[hs] at Hs
  rw[show Res.bind _ _=_ from Hs];rfl
 |ok s'=>
  rw[hs] at Hs;o⟨v,h2,ev,m',hm',G2⟩:=Hs;rw[ev,F6];e⟨_,h2,rfl,⟨_,_,rfl⟩,⟨m',hm',G2⟩,λ_=>oS (r0:=0) (SP:=.hole) hs⟩
%tER(S0:StO H st sh)(tab:∀i,i<11→H[i]? =some (HU .hole %I i))(shw:H[sh]? =#g(Ji B))(TK:^o)(hB:B.length≤32)(hl:bs.length≤65536):
 Sim (Dz [%6k,%3n] H) (readRules T B bs) (λR v h'=>v=#H∧isName R.name=true∧∃m ls,m≤h'.length∧RG H.length sh T B %7w m 1 (%ZR.name) ls R h'):=by
 h e0:Dz [%6k,%3n] H=fin (Mv [%est,#k,none,none,none] H):=by u Dz;rw[Cg];rfl
 rw[e0,kY];u readRules;by_cases hn:bs=[]
 ·subst hn;h z:%8M([]:Bytes).length H=%5d(decide (([]:Bytes).length=0))H:=&5j;xr [DU,z,List.length_nil,decide_true];a
 h hp:0<bs.length:=List.length_pos_iff.mpr hn;h z:%8Mbs.length H=%5d(decide (bs.length=0))H:=&5j;h hlen:(H++%3r).length=H.length+10:=by simp[Hj]
 h rs:Cs &1X (H++%3r)=%D(H.length+10)((H++%3r)++[spO bs]):=by rw[SG hl,hlen];rfl
 generalize hB':(#F4(#v2 BF 1 3)rb)=Bd
 h mk:∀{σ:Sa},σ[0]? =some (%est)→Cu "Rules" 2 CF (#b0) σ H=&2k(H++%3r):=by
  intro σ hσ;r br (x:=.non) S0 ?_;s[Aa,fV,hσ,Ad,A3]
 h mk1:=mk (σ:=[some %6k,#k,none,none,none]) rfl;h h11:11≤H.length:=by h:=Bo (tab 10 (by decide));omega
 h hsl:sh<H.length:=Bo shw
 h G0:RG H.length sh T B %7w (H.length+11) 0 &0e .non noRules ((H++%3r)++[spO bs]):=by
  h lo:∀{i:Nat} {o:O},H[i]? =%b→((H++%3r)++[spO bs])[i]? =%b:=λq=>by
   rw[List.append_assoc,List.getElem?_append_left (Bo q)];e q
  h hi:∀{k:Nat} {o:O},%3r[k]? =%b→((H++%3r)++[spO bs])[H.length+k]? =%b:=λ{k o} q=>by
   h hk:=&5J.1;rw[List.getElem?_append_left (by rw[List.length_append];omega),VF];e q
  h hi0:((H++%3r)++[spO bs])[H.length]? =some (.ins "Rules" (A7 H.length &0e .non)):=hi (k:=0) rfl;r{ne:=⟨λi hi=>lo (tab i hi),lo shw,&1e,&1e,&1e,&1e,&1e,h11,hsl⟩,rk:=⟨Nat.zero_le _,#q,#q,#q,#q,(λ_ z=>by cases z),(λ_ z=>by cases z),(λ_ z=>by cases z),(λ_ z=>by cases z)⟩,ob:=hi0,cn:=&1e,st:=&1e,sp:=by rw[←hlen];e BX,hm:=%L,nh:=#q,ho:=(λ_ z=>by cases z),hl:=⟨[],&1e,⟨rfl,λi q hd e1 _=>by simp at e1⟩,(λ_ z=>by c z),.nil⟩}
 h it:%8L(H.length+10)((H++%3r)++[spO bs])=some (%5u.map spW):=by s[AH,G0.sp];rfl
 h hl11:H.length+11≤((H++%3r)++[spO bs]).length:=by rw[List.length_append,hlen];simp
 generalize hh:(H++%3r)++[spO bs]=h0 at rs it G0 hl11
 h LL:=Mj (f:=ruleLine T B) (bs:=bs) (B:=Bd) (n:=H.length+10) (sp:=%5u) (J:=JR H.length sh st T B bs) (λp s τ h hJ=>by
  o⟨_,⟨m,_,G⟩,_⟩:=hJ;o⟨c,nm,RGg⟩:=px G
  e RGg.sp) (λs τ h a l b hb hJ=>by rw[←hB'];e fk TK hB hl s τ h a l b hb hJ) (bs.length+1) bs [] 0 none [some %6k,#k,%4E,none,none] h0 rfl %0s rfl ⟨⟨none,none,rfl⟩,⟨_,hl11,G0⟩,λz=>%4vz _⟩
 h LL:Dq (Di (λi h=>(%8L(H.length+10)h).map λys=>ys[i]?) (tgN 3) Bd %5u.length 0 [%est,#k,%4E,none,none] h0) (&3G(ruleLine T B)0 none bs) (λs' r=>∃τ' h',r=.nx τ' h'∧JR H.length sh st T B bs bs.length s' τ' h'):=LL;xr [DU,z,decide_eq_false (Nat.ne_of_gt hp),mk1,Et,iL,rs,it,List.length_map]
 cases hL:&3G(ruleLine T B)0 none bs with
 |error F=>
  l1
  rfl
 |ok s=>
  rw[hL] at LL;o⟨τ',h',er,⟨x3,x4,rfl⟩,⟨m,hm,G⟩,hs⟩:=LL;rw[er]
  cases s with
  |none=>e ^U(hs hp)
  |some y=>
   o⟨G,Y⟩:=G;v;xr [G.mth,UY G]
   cases q:%6Y with
   |true=>
    xr [DU,nW]
    rfl
   |false=>
    xr [];e⟨_,h',rfl,rfl,Y.no,m,_,hm,G⟩
end
%tlZ:∀c:UInt8,(isSmall c||(isDigit c||c==95))=true→sg c=c.toNat:=&2M
%tP7{w:Bytes}(h:&2g=true):w.length≤12∧w≠[]∧∀c∈w,sg c=c.toNat:=by
 u isName at h;s[Bool.and_eq_true,decide_eq_true_eq] at h;o⟨h1,h2,h3,_⟩:=h;r⟨h2,λz=>by rw[z] at h1;simp at h1,λc hc=>lZ c ?_⟩;e List.all_eq_true.mp h3 c hc
%dCO:W→W:=λx=>match x with
 |.str y=>.int (y.cps.getD 0 0:Nat)
 |_=>.non
%tjz{c:Nat}{h:%a}:Yu [.str &4m] h=%1F(c:Nat):=rfl
%tbq{w:Bytes}{h:%a}(hw:&2g=true):IV %8d h=%1Jw:=by
 o⟨h12,hne,hs⟩:=P7 hw;xr [IV,Si,fLc,iS]
 h:=OD (it:=λi _=>some (%1Y.cps[i]?.map λc=>W.str &4m)) (i:=1) (fe:=&1nYu 1) (σ:=[some %0y,none]) (h:=h) (f:=CO)
  (w.map λc=>&5e) 0 [] (λk _=>by simp[S,Function.comp_def]) (λx hx=>by
    o⟨d,_,rfl⟩:=&4x
    e⟨⟨h,by xr [jz];rfl⟩,rfl⟩) (by simp;e %5Rh12)
 y4
 h e2:(w.map λc=>&4Q).map CO=Ai w:=by
  d0;apply List.map_congr_left;intro c hc;show W.int ((sg c:Nat):Int)=W.int (c.toNat:Nat);rw[hs c hc]
 rw[hsz];rw[show lcK (λi _=>some (%1Y.cps[i]?.map λc=>W.str &4m)) 1 (&1nYu 1) [%1K,none] h _ 0 []=_ from this,e2];a
%tZp:∀k:Nat,(%7T[W.int 0]).flatten=Ai (%7T0)
 |0=>rfl
 |k+1=>by
  rw[List.replicate_succ,List.flatten_cons,Zp k,List.replicate_succ];a
%tOw{w:Bytes}{h:%a}(hw:&2g=true):Ck %8d h=%1J(padded w):=by
 o⟨h12,hne,hs⟩:=P7 hw;h ol:BM %8d h=%1F(w.length:Nat):=Rq (%5Rh12);h o1:oLst %9p h=%3j%9p:=rfl
 h o2:jy (.lst %9p) (.int (12-(w.length:Nat))) h=%1J(List.replicate (12-w.length) 0):=by
  h hk:(12-(w.length:Int)).toNat=12-w.length:=%w
  h b1:(-(2^63):Int)≤12-(w.length:Nat)∧(12-(w.length:Nat):Int)<2^63∧([W.int 0]:%m).length*(12-(w.length:Int)).toNat≤sizeLine:=by
   r⟨%w,%w,?_⟩;rw[hk];show 1*(12-w.length)≤16777216;b
  s[jy,Em];rw[if_pos b1,hk,Zp]
 h o3:Lg (&Sw) (&S(List.replicate (12-w.length) 0)) h=%1J(padded w):=UC rfl rfl (by h:NAME=12:=rfl;rw[List.length_replicate];omega);xr [Ck,Ue,bq hw,ol,o1,o2,o3]
%tHz{w:Bytes}(hw:&2g=true):(padded w).length=12:=by
 h:=(P7 hw).1;u padded;simp[NAME];b
section
variable{r0 sh m c q:Nat}{nm ls:W}{T:Table}{B:Book}{SP:O}{R:Rules}{h h':List O}
%dhcB:FS:=%4FB9&M(#b2)
%toF:JE=%B1(fN El (Aa (%X"event") (Aa (%X"mode") (Aa (%8l&6G) %5w))))(%0P(iL &6G)2 hcB)%5t:=rfl
%tdz{x0:&F}{ds:List Deed}{a:Nat}(hac:a≠c):∀(rest:List Deed) (i:Nat) (acc:Bytes) (h:%a) (x2:&F),ds.drop i=rest→(∀d∈rest,d.code.length≤1000)→acc.length+1000*rest.length≤16777216→h[a]? =%V(ds.map dW)→h[c]? =%4Q→
 ∃x2',Di (λi h=>(AH %N h).map λys=>ys[i]?) (tgN 2) hcB rest.length i [x0,^M,x2] h=.nx [x0,^M,x2'] (%1Ec(acc++rest.flatMap Deed.code))
 |[],i,acc,h,x2,hd,_,_,ha,hc=>by
  h hi:ds.length≤i:=&1o;rw[List.length_nil,D5 (by s[AH,ha,Option.map_some,List.getElem?_map,&5R,Option.map_none])];r⟨x2,?_⟩;rw[List.flatMap_nil,List.append_nil];n;apply List.ext_getElem?;intro k;by_cases z:k=c
  ·y;rw[Aq hc,hc]
  ·rw[Ac &5A]
 |d::rest,i,acc,h,x2,hd,hdl,hn,ha,hc=>by
  h hi:ds[i]? =%0z:=by
   h:=&1vhd;b5
  h hd2:ds.drop (i+1)=rest:=by rw[←List.drop_drop,hd];rfl
  h hl:=hdl d (List.mem_cons_self ..);c7;rw[List.length_cons,Cv (x:=dW d) (σ2:=[x0,^M,some (dW d)]) (by s[AH,ha,Option.map_some,List.getElem?_map,hi]) rfl];h ex:B9 c [dW d] h=#t(%1Ec(acc++d.code)):=IY hc rfl %w
  h e1:hcB [x0,^M,some (dW d)] h=.nx [x0,^M,some (dW d)] (%1Ec(acc++d.code)):=by
   xr [hcB,fLM,hc,ex]
  rw[e1,B7];o⟨x2',e2⟩:=dz hac rest (i+1) (acc++d.code) (%1Ec(acc++d.code)) (some (dW d)) hd2 (λx hx=>hdl x (#ahx)) (by s[List.length_append];omega) (by rw[Ac (Ne.symm hac)];e ha) (Aq hc);r⟨x2',?_⟩;rw[e2,List.set_set,List.flatMap_cons,List.append_assoc]
%tke{ds:List Deed}(h:∀d∈ds,d.code.length≤1000):(ds.flatMap Deed.code).length≤1000*ds.length:=by
 induction ds with
 |nil=>e #q
 |cons d ds ih=>
  have h1:=&4ud;h h2:=ih λx hx=>h x (#ahx);rw[List.flatMap_cons,List.length_append,List.length_cons];b
%tfj{hd:Handler}(O1:h[q]? =some (hdO hd (q+1)))(O2:h[q+1]? =%V&6v)(ok:HOk hd):Dp [.ref q] h=%0T(h++[.lst (Ai hd.code)]):=by
 h e0:Dp [.ref q] h=fin (JE [%eq,none,none] h):=by u Dp;rw[Cg];rfl
 h g1:BN "event" %8A h=%1Ohd.event:=%3CO1;h g2:BN "mode" %8A h=%s&5H:=%3CO1;h g3:BN "actions" %8A h=%D(q+1)h:=%3CO1;h ol:BM [.ref (q+1)] h=%1Ohd.deeds.length:=by s[BM,NO,O2,List.length_map];rfl
 let h4:Bytes:=[UInt8.ofNat hd.event,UInt8.ofNat ((hd.mode.map λ(m:Nat)=>m+1).getD 0),UInt8.ofNat hd.deeds.length,0]
 h hmo:(hd.mode.map λm=>m+1).getD 0<256:=by
  cases hm:hd.mode with
  |none=>simp
  |some x=>have:=ok.mo x hm;simp;omega
 h hnd:=ok.nd
 h om:El [nW hd.event,&5H,nW hd.deeds.length,#r] h=%0T(h++[.lst (Ai h4)]):=by
  h:Ai h4=[nW hd.event,&5H,nW hd.deeds.length,#r]:=by
   show[bW (UInt8.ofNat hd.event),%7S((hd.mode.map λ(m:Nat)=>m+1).getD 0),%7Shd.deeds.length,bW 0]=_;rw[CS ok.ev,CS hmo,&4J];a
  l;a
 rw[e0,oF]
 h g3':BN "actions" %8A (h++[.lst (Ai h4)])=%D(q+1)(h++[.lst (Ai h4)]):=by
  r C4 (c:="Handler") (fs:=hdF hd (q+1)) ?_ rfl;rw[List.getElem?_append_left (Bo O1)];e O1
 h O2':(h++[O.lst (Ai h4)])[q+1]? =%V&6v:=by rw[List.getElem?_append_left (Bo O2)];e O2
 h it:%8L(q+1)(h++[.lst (Ai h4)])=some &6v:=by s[AH,O2']
 o⟨x2',e2⟩:=dz (x0:=%eq) (c:=h.length) (a:=q+1) (ds:=hd.deeds) (by h:=Bo O2;omega) hd.deeds 0 h4 (h++[.lst (Ai h4)]) none rfl ok.dl (by show 4+1000*hd.deeds.length≤16777216;omega) O2' BX;generalize hcB=HB at e2 ⊢;xr [g1,g2,g3,ol,om,Et,iL,g3',it,List.length_map,e2];rw[HV];a
%tgk{hd:Handler}(ok:HOk hd):hd.code.length≤32004:=by
 h:=ke ok.dl;h:=ok.nd;show([UInt8.ofNat hd.event,_,_,0]++hd.deeds.flatMap Deed.code).length≤32004;i1;show 4+(hd.deeds.flatMap Deed.code).length≤32004;b
end
section
variable{r0 sh m c q:Nat}{nm ls:W}{T:Table}{B:Book}{SP:O}{R:Rules}{h h':List O}
%dvcB:FS:=Ag (%4jB9(#UCk 2)) (%4jB9(%3O2 Bs 3(%1D4)))
%tow:HG=%B1%1w(LY (Am Bf %0e %6V) &4N (tg2 2 3) vcB)%5t:=rfl
%tset_same{o:O}(hc:h[c]? =%b):h.set c o=h:=by
 apply List.ext_getElem?;intro k;by_cases z:k=c
 ·y;rw[Aq hc,hc]
 ·rw[Ac &5A]
%tcE{x0:&F}{kvs:&u}{vs:List Var}{s:Nat}(hk:kvs.map (λp=>p.1)=vs.map λv=>(.inr (S v.name):Key))(hsc:s≠c):∀(rest:List Var) (i:Nat) (acc:Bytes) (h:%a) (x2 x3:&F),vs.drop i=rest→(∀v∈rest,isName v.name=true)→acc.length+16*rest.length≤16777216→h[s]? =%V(vs.map λv=>%7d)→h[c]? =%4Q→
 ∃x2' x3',Di (IZ kvs (.ref s)).2 (tg2 2 3) vcB rest.length i [x0,^M,x2,x3] h=.nx [x0,^M,x2',x3'] (%1Ec(acc++rest.flatMap Var.code))
 |[],i,acc,h,x2,x3,hd,_,_,hs,hc=>by
  h hi:vs.length≤i:=&1o;h hkl:kvs.length=vs.length:=by h:=%8Yhk;simpa using this
  h e1:(IZ kvs (.ref s)).2 i h=%8e:=by
   s[IZ,List.getElem?_eq_none (show kvs.length≤i by omega)]
  rw[List.length_nil,D5 e1]
  e⟨x2,x3,by rw[List.flatMap_nil,List.append_nil,set_same hc]⟩
 |v::rest,i,acc,h,x2,x3,hd,hnm,hn,hs,hc=>by
  h hi:vs[i]? =%W:=by
   h:=&1vhd;b5
  h hki:∃u,kvs[i]? =some (.inr (S v.name),u):=by
   t7
   cases z:kvs[i]? with
   |none=>rw[z] at this;c this
   |some p=>
    rw[z] at this;u6
  o⟨u,hki⟩:=hki;h hd2:vs.drop (i+1)=rest:=by rw[←List.drop_drop,hd];rfl
  h hnv:=hnm v (List.mem_cons_self ..);c7
  h e1:(IZ kvs (.ref s)).2 i h=some (%3J[%Zv.name,%7d]):=by
   s[IZ,hki,AH,hs,List.getElem?_map,hi,Option.map_some];a
  rw[List.length_cons,Cv (x:=%0a(%Zv.name)%7d) (σ2:=[x0,^M,%3Ev.name,%0fv.at_]) e1 rfl];h pl:=Hz hnv;h ex:B9 c [&S&0r] h=#t(%1Ec(acc++&0r)):=IY hc rfl %w;h l4:&3F.length=4:=by simp[le32,le]
  h hc2:=Aq (o':=O.lst (Ai (acc++&0r))) hc;h ex2:B9 c [&S&3F] (%1Ec(acc++&0r))=#t((%1Ec(acc++&0r)).set c (&S((acc++&0r)++&3F))):=IY hc2 rfl (by rw[List.length_append];omega)
  h e2:vcB [x0,^M,%3Ev.name,%0fv.at_] h=.nx [x0,^M,%3Ev.name,%0fv.at_] (%1Ec(acc++v.code)):=by
   h r1:Ck [%Zv.name] h=%1J&0r:=Ow hnv;h r2:Bs [%7d,.int 4] (%1Ec(acc++&0r))=_:=cP;generalize Ck=F1 at r1;u vcB;xr [fLM,hc,Ow hnv,ex,hc2,r2,ex2];rw[List.set_set,List.append_assoc];a
  rw[e2,B7]
  h cl:v.code.length=16:=by
   show(padded v.name++&3F).length=16;i1;b
  o⟨x2',x3',e3⟩:=cE hk hsc rest (i+1) (acc++v.code) (%1Ec(acc++v.code)) (%3Ev.name) (%0fv.at_) hd2 (λx hx=>hnm x (#ahx)) (by rw[List.length_append];omega) (by rw[Ac (Ne.symm hsc)];e hs) (Aq hc);e⟨x2',x3',by rw[e3,List.set_set,List.flatMap_cons,List.append_assoc]⟩
%teW(G:RG r0 sh T B SP m c nm ls R h)(hm:m≤h.length):Cf [#f] h=%0T(h++[.lst (Ai ((R.vars++R.mines).flatMap Var.code))]):=by
 h e0:Cf [#f] h=fin (HG [%1x,none,none,none] h):=by u Cf;rw[Cg];rfl
 h hm11:=G.hm;h om:El [] h=%0T(h++[.lst %7E]):=rfl;h app:∀{i:Nat} {o:O},h[i]? =%b→(h++[O.lst %7E])[i]? =%b:=λq=>by rw[List.getElem?_append_left (Bo q)];e q
 h nl:∀{i:Nat} {o:O},i≠r0+4→h[i]? =%b→((h++[O.lst %7E]).set (r0+4) .hole)[i]? =%b:=λhi q=>by rw[Ac (Ne.symm hi)];e app q
 h f1:∀{h1:%a} {σ:Sa},σ[0]? =some %1x→h1[r0]? =&1jnm→h1[r0+2]? =#g%7F→Am Bf %0e %6V σ h1=%D(r0+4)h1:=by
  intro h1 σ hσ o1 o2;h g1:%7lh1=%6jh1:=%3Co1
  h g2:Bf ^q &2D h1=%D(r0+4)h1:=by
   s[Bf,C6 o2,keyOf];a
  s[Am,AB,fV,hσ,A3,g1,fC,g2]
 h f2:∀{h1:%a} {σ:Sa},σ[0]? =some %1x→h1[r0]? =&1jnm→AB "starts" &Z σ h1=%D(r0+8)h1:=by
  intro h1 σ hσ o1;h g1:%4H"starts"h1=%D(r0+8)h1:=%3Co1;s[AB,fV,hσ,A3,g1]
 h hv4:(h++[O.lst %7E])[r0+4]? =#g(PJ R):=app G.ne.var;h ob:h[r0]? =&1jnm:=G.ob;U
 h hk:(PJ R).map (λp=>p.1)=(R.vars++R.mines).map λv=>(.inr (S v.name):Key):=by
  h z:=congrArg (List.map λn:Bytes=>(.inr (S n):Key)) (HS (R:=R));u Rules.varNames at z;rw[List.map_map,List.map_map] at z;u PJ Fp;d0;e z
 h hst:=nl (i:=r0+8) %w G.st;h it:%8L(r0+8)((h++[O.lst %7E]).set (r0+4) .hole)=some ((R.vars++R.mines).map λv=>%7d):=by s[AH,hst]
 h hcl:((h++[O.lst %7E]).set (r0+4) .hole)[h.length]? =%5X[]:=by rw[Ac %w];e BX
 o⟨x2',x3',e2⟩:=cE (x0:=%1x) (c:=h.length) (s:=r0+8) hk %w (R.vars++R.mines) 0 [] _ none none rfl (λv hv=>rk.vnm v.name (List.mem_map_of_mem hv)) (by h:=rk.nva;h:=rk.nmi;simp;omega) hst hcl
 h hmin:(IZ (PJ R) (.ref (r0+8))).1=(R.vars++R.mines).length:=by
  h:=%8Yhk;s[List.length_map] at this;G
 h ez:LY (Am Bf %0e %6V) &4N (tg2 2 3) vcB [%1x,%P,none,none] (h++[.lst %7E])=.nx [%1x,%P,x2',x3'] (h++[.lst (Ai ((R.vars++R.mines).flatMap Var.code))]):=by
  u LY;rw[f1 rfl (app ob) (app G.ne.nms)];s[hv4];rw[f1 rfl (&3Zob) (&3ZG.ne.nms),f2 rfl (&3Zob)];s[if_true,it];rw[hmin,e2]
  h h5:(((h++[O.lst %7E]).set (r0+4) .hole).set h.length (&S([]++(R.vars++R.mines).flatMap Var.code)))[r0+4]? =&2c:=by
   K;e Aq hv4
  s[unl,h5];n;rw[List.set_comm _ _ (show h.length≠r0+4 by omega),List.set_set,set_same hv4,HV];a
 rw[e0,ow];generalize hZ:LY (Am Bf %0e %6V) &4N (tg2 2 3) vcB=Z at ez ⊢;xr [om,ez]
end
section
variable{r0 sh m c q:Nat}{nm ls:W}{T:Table}{B:Book}{SP:O}{R:Rules}{h h':List O}
%dext(fe:FE):FS:=%4jB9 fe
%dSt(h:%a)(acc:Bytes)(hc:%a):Prop:=Kp h.length h hc∧hc[h.length]? =%4Q
%tSt.ext{fe:FE}{σ:Sa}{hc h1:%a}{acc cs:Bytes}{v:W}(s:St h acc hc)(hσ:σ[1]? =some %P)(hf:fe σ hc=^nv)(k:Kp h.length hc h1)(h1c:h1[h.length]? =%4Q)(hv:Em v h1=some (Ai cs))(hl:acc.length+cs.length≤16777216):
 ∃h2,JU.ext fe σ hc=%1Vh2∧St h (acc++cs) h2:=by
 r⟨h1.set h.length (&S(acc++cs)),?_,(s.1.trans k).bh %L,Aq h1c⟩;h ex:=IY h1c hv hl;u JU.ext;s[AI,fLM,fV,hσ,A3,s.2,Aa,hf,Ad,ex,F6]
%tSt.rg(s:St h acc h')(G:RG r0 sh T B SP m c nm ls R h)(hm:m≤h.length):RG r0 sh T B SP m c nm ls R h':=G.kp s.1 hm
%dkb5:%m:=[%8c,%7X,%1h,%0w,%0d]
%dr9(R:Rules):W→W:=λx=>match x with
 |.str k=>(%1N(CG 1 R)k).getD .non
 |_=>.non
%trZ{σ:Sa}{x1 x3 x4:&F}(G:RG r0 sh T B SP m 1 nm ls R h):fLc (%8Hkb5) 2 %7x (%3lx1 none x3 x4) h=%1J[UInt8.ofNat R.vars.length,%6P,%6O,%6N,%6Q]:=by
 h gc:%4H"counts"h=%D(r0+1)h:=&0B;h it:D4 (.ktp kb5)=some kb5:=rfl
 h kc:∀x∈kb5,∃k n,x=.str k∧%1N(CG 1 R)k=&hn:=by
  Y;h hz:x=%8c∨x=%7X∨x=%1h∨x=%0w∨x=%0d:=by simpa [kb5] using hx
  rcases hz with z|z|z|z|z<;>subst z
  ·e⟨_,R.vars.length,rfl,rfl⟩
  ·e⟨_,R.mines.length,rfl,rfl⟩
  ·e⟨_,R.timers.length,rfl,rfl⟩
  ·e⟨_,R.signals.length,rfl,rfl⟩
  ·e⟨_,R.modes.length,rfl,rfl⟩
 h:=OD (it:=λi _=>some kb5[i]?) (i:=2) (fe:=%7x) (σ:=[some #f,x1,none,x3,x4]) (h:=h) (f:=r9 R) kb5 0 [] (λk _=>by simp) (λx hx=>by
  o⟨k,n,rfl,hv⟩:=kc x hx;h dg:Bf &0D (.str k) h=%1On:=by s[Bf,C6 G.cn,keyOf,hv]
  h e1:r9 R (.str k)=nW n:=by s[r9,hv,Option.getD_some]
  r⟨⟨h,?_⟩,by rw[e1];rfl⟩;A
  s[Am,AB,fV,List.set_cons_succ,List.set_cons_zero,List.getElem?_cons_zero,List.getElem?_cons_succ,A3,gc,dg]) (by decide)
 s[fLc,iT,fC,A3,it];r this.trans ?_;U;h h1:=rk.nva;h h2:=rk.nmi;h h3:=rk.nti;h h4:=rk.nsi;h h5:=rk.nmo
 h e2:Ai [UInt8.ofNat R.vars.length,%6P,%6O,%6N,%6Q]=[nW R.vars.length,nW R.mines.length,nW R.timers.length,nW R.signals.length,nW R.modes.length]:=by
  show[bW _,bW _,bW _,bW _,bW _]=_;rw[CS %w,&4J,&4J,&4J,&4J]
 rw[e2];a
%dnG:FS:=ext (#UCk 4)
%tjT{x0 x2 x3:&F}{n:Bytes}{acc:Bytes}(hn:%9z=true)(hc:h[c]? =%4Q)(hl:acc.length+12≤16777216):nG [x0,^M,x2,x3,%3En] h=.nx [x0,^M,x2,x3,%3En] (%1Ec(acc++padded n)):=by
 h ex:B9 c [&S(padded n)] h=#t(%1Ec(acc++padded n)):=IY hc rfl (by rw[Hz hn];e hl);xr [nG,ext,fLM,hc,Ow hn,ex]
%tW4{x0 x2 x3:&F}{kvs:&u}{ns:#s}(hk:kvs.map (λp=>p.1)=ns.map λn=>(.inr (S n):Key)):∀(rest:#s) (i:Nat) (acc:Bytes) (h:%a) (x4:&F),ns.drop i=rest→(∀n∈rest,%9z=true)→acc.length+12*rest.length≤16777216→h[c]? =%4Q→
 ∃x4',Di &1d.2 &0b nG rest.length i [x0,^M,x2,x3,x4] h=.nx [x0,^M,x2,x3,x4'] (%1Ec(acc++rest.flatMap padded))
 |[],i,acc,h,x4,hd,_,_,hc=>by
  h hi:ns.length≤i:=&1o;h hkl:kvs.length=ns.length:=by h:=%8Yhk;simpa using this
  h e1:&1d.2 i h=%8e:=by
   s[Ju,List.getElem?_eq_none (show kvs.length≤i by omega),Option.map_none]
  rw[List.length_nil,D5 e1]
  e⟨x4,by rw[List.flatMap_nil,List.append_nil,set_same hc]⟩
 |n::rest,i,acc,h,x4,hd,hnm,hn,hc=>by
  h hi:ns[i]? =%9Y:=by
   h:=&1vhd;b5
  h hki:∃u,kvs[i]? =some (.inr (S n),u):=by
   t7
   cases z:kvs[i]? with
   |none=>rw[z] at this;c this
   |some p=>
    rw[z] at this;u6
  o⟨u,hki⟩:=hki;h hd2:ns.drop (i+1)=rest:=by rw[←List.drop_drop,hd];rfl
  h hnv:=hnm n (List.mem_cons_self ..);c7
  h e1:&1d.2 i h=some (%3En):=by
   s[Ju,hki,Option.map_some];a
  rw[List.length_cons,Cv (x:=%5D) (σ2:=[x0,^M,x2,x3,%3En]) e1 rfl];rw[jT hnv hc %w,B7];h pl:=Hz hnv;o⟨x4',e3⟩:=W4 hk rest (i+1) (acc++padded n) (%1Ec(acc++padded n)) (%3En) hd2 (λx hx=>hnm x (#ahx)) (by rw[List.length_append];omega) (Aq hc);e⟨x4',by rw[e3,List.set_set,List.flatMap_cons,List.append_assoc]⟩
%dUQ:FS:=Nq (%4zBf%0e) &0b nG
%tUP{key:Str}{d:Nat}{ns:#s}{x3 x4:&F}{hc:%a}{acc:Bytes}(s:St h acc hc)(G:RG r0 sh T B SP m c nm ls R h)(hm:m≤h.length)(hd:%1N%7F key=%ed)(hdr:r0+4<d∧d<r0+8)(D:h[d]? =%7Gns)(hns:∀n∈ns,%9z=true)(hl:acc.length+12*ns.length≤16777216):
 ∃x4' h2,UQ (%3l%P&0m x3 x4) hc=.nx (%3l%P&0m x3 x4') h2∧St h (acc++&6j) h2:=by
 h hm11:=G.hm;h G1:=s.rg G hm;h D1:hc[d]? =%7Gns:=s.1.get %w D;h nl:∀{i:Nat} {o:O},i≠d→hc[i]? =%b→(hc.set d .hole)[i]? =%b:=λhi q=>by rw[Ac (Ne.symm hi)];e q
 h f1:∀{h1:%a},h1[r0]? =&1jnm→h1[r0+2]? =#g%7F→Am Bf %0e &j (%3l%P&0m x3 x4) h1=%Dd h1:=by
  intro h1 o1 o2;h g1:%7lh1=%6jh1:=%3Co1
  h g2:Bf ^q ^E h1=%Dd h1:=by
   s[Bf,C6 o2,keyOf,hd]
  s[Am,AB,fV,List.getElem?_cons_zero,List.getElem?_cons_succ,A3,g1,g2]
 h hk:(M0 ns).map (λp=>p.1)=ns.map λn=>(.inr (S n):Key):=by
  u M0 Fp;d0;h z:=congrArg (List.map λn:Bytes=>(.inr (S n):Key)) (Ov (ns:=ns) (k:=0)).symm;e9;e z
 h hkl:(M0 ns).length=ns.length:=by h:=%8Yhk;simpa using this
 o⟨x4',e2⟩:=W4 (x0:=%1x) (x2:=&0m) (x3:=x3) (c:=h.length) hk ns 0 acc (hc.set d .hole) x4 rfl hns hl (&3Zs.2);h ob:hc[r0]? =&1jnm:=G1.ob;r⟨x4',hc.set h.length (&S(acc++&6j)),?_,s.1.bh %L,Aq s.2⟩;u UQ Nq;rw[f1 ob G1.ne.nms];s[D1];rw[f1 (&3Zob) (&3ZG1.ne.nms)];s[if_true];rw[show(Ju (M0 ns)).1=ns.length from hkl,e2]
 h h5:((hc.set d .hole).set h.length (&S(acc++&6j)))[d]? =&2c:=by
  K;e Aq D1
 s[unl,h5];n;rw[List.set_comm _ _ (show h.length≠d by omega),List.set_set,set_same D1]
%dhdB:FS:=ext (#UDp 3)
%tdy{x2 x4:&F}(G:RG r0 sh T B SP m c nm ls R h)(hm:m≤h.length):∀(rest:&4R) (i:Nat) (acc:Bytes) (hc:%a) (x3:&F),R.handlers.drop i=rest→acc.length+32004*rest.length≤16777216→St h acc hc→
 ∃x3' h2,Di (λi h=>(AH &3C h).map λys=>ys[i]?) (tgN 3) hdB rest.length i (%3l%P x2 x3 x4) hc=.nx (%3l%P x2 x3' x4) h2∧St h (acc++rest.flatMap Handler.code) h2
 |[],i,acc,hc,x3,hd,_,s=>by
  o⟨qs,q1,q2,q3,q4⟩:=(s.rg G hm).hl;h hi:R.handlers.length≤i:=&1o;rw[List.length_nil,D5 (by s[AH,q1,Option.map_some,List.getElem?_map,List.getElem?_eq_none (show qs.length≤i by rw[q2.1];e hi),Option.map_none])]
  e⟨x3,hc,rfl,by rw[List.flatMap_nil,List.append_nil];e s⟩
 |hd::rest,i,acc,hc,x3,hdr,hn,s=>by
  o⟨qs,q1,q2,q3,q4⟩:=(s.rg G hm).hl
  h hi:R.handlers[i]? =some hd:=by
   h:=&1vhdr;b5
  h hd2:R.handlers.drop (i+1)=rest:=by rw[←List.drop_drop,hdr];rfl
  obtain⟨q,hq⟩:∃q,qs[i]? =%6w:=by
   h hlt:=(List.getElem?_eq_some_iff.mp hi).1;e⟨_,List.getElem?_eq_getElem (show i<qs.length by rw[q2.1];e hlt)⟩
  o⟨o1,o2⟩:=q2.2 i q hd hq hi;h ok:=G.ho hd (List.mem_of_getElem? hi);h cl:=gk ok;c7;rw[List.length_cons,Cv (x:=%8A) (σ2:=[some #f,%P,x2,%eq,x4]) (by s[AH,q1,Option.map_some,List.getElem?_map,hq]) rfl];h hlc:h.length<hc.length:=Bo s.2
  h fe:(#UDp 3) [some #f,%P,x2,%eq,x4] hc=%Dhc.length(hc++[.lst (Ai hd.code)]):=by
   h:=fj o1 o2 ok;generalize Dp=F at this ⊢;xr [this]
  o⟨h2,e1,s2⟩:=s.ext (σ:=[some #f,%P,x2,%eq,x4]) (cs:=hd.code) rfl fe Kp.app (by rw[List.getElem?_append_left hlc];e s.2) (by s[Em,BX]) %w;h e1:hdB (%3l%P x2(%eq)x4) hc=_:=e1;rw[e1,B7];o⟨x3',h3,e3,s3⟩:=dy G hm rest (i+1) (acc++hd.code) h2 (%eq) hd2 (by rw[List.length_append];omega) s2;e⟨x3',h3,e3,by rw[List.flatMap_cons,←List.append_assoc];e s3⟩
end
section
variable{r0 sh m c q:Nat}{nm ls:W}{T:Table}{B:Book}{SP:O}{R:Rules}{h h':List O}
%tYF{α:Type}{f:α→Bytes}{k:Nat}:∀{xs:#y},(∀x∈xs,(f x).length≤k)→(xs.flatMap f).length≤k*xs.length
 |[],_=>#q
 |x::xs,h=>by
  h h1:=&4ux;h h2:=YF (xs:=xs) λy hy=>h y (#ahy);rw[List.flatMap_cons,List.length_append,List.length_cons,Nat.mul_add,Nat.mul_one];b
%dk3:%m:=[%1h,%0w,%0d]
%drc9:FS:=&e(%0P(%8Hk3)2 UQ)(%0P(iL %7L)3 hdB)%5t
%toE:Mt=%B1(%1ARo(%5o[.int 84,.int 82,%6r,#r]))(ext (%4r1 Ck(%X"name")))(%3p(ext (fLc (%8Hkb5) 2 %7x))(%4FBq&M%5w)(ext (Ax 2 Bs (Aa &3I (%1D2))))(ext (#UCf 0))rc9):=rfl
%tfg(G:RG r0 sh T B SP m 1 (%ZR.name) ls R h)(hm:m≤h.length)(hn:isName R.name=true):∃h',Eh [#f] h=%0Th'∧h'[h.length]? =%5XR.code:=by
 h e0:Eh [#f] h=fin (Mt (%7nnone none) h):=by u Eh;rw[Cg];rfl
 U;h n1:=rk.nva;h n2:=rk.nmi;h n3:=rk.nti;h n4:=rk.nsi;h n5:=rk.nmo;h n6:=G.nh;h l0:Ro [.ktp [.int 84,.int 82,%6r,#r]] h=%0T(h++[.lst (Ai [0x54,0x52,1,0])]):=rfl;h s0:St h [0x54,0x52,1,0] (h++[.lst (Ai [0x54,0x52,1,0])]):=⟨Kp.app,BX⟩;generalize h++[.lst (Ai [0x54,0x52,1,0])]=h0 at l0 s0;h G0:=s0.rg G hm;h gn:%4H"name"h0=.ok (%ZR.name) h0:=G0.ob.ga rfl;h pn:=Hz hn
 o⟨h1,e1,s1⟩:=s0.ext (σ:=[some #f,%P,none,none,none]) (fe:=%4r1 Ck(%X"name")) (cs:=%7R) (v:=&S%7R) (h1:=h0) rfl (by
  h:=Ow (h:=h0) hn;generalize Ck=F at this ⊢
  xr [gn,this]) Kp.refl s0.2 rfl (by rw[pn];decide)
 h G1:=s1.rg G hm;o⟨h2,e2,s2⟩:=s1.ext (σ:=[some #f,%P,none,none,none]) (fe:=fLc (%8Hkb5) 2 %7x) (cs:=[UInt8.ofNat R.vars.length,%6P,%6O,%6N,%6Q]) rfl (rZ (σ:=[]) G1) Kp.refl s1.2 rfl (by rw[List.length_append,pn];show 4+12+5≤16777216;decide)
 h oa:Bq h.length %9p h2=#t(h2.set h.length (&S(([0x54,0x52,1,0]++%7R++[UInt8.ofNat R.vars.length,%6P,%6O,%6N,%6Q])++[0]))):=by
  h hz:(Ai ([0x54,0x52,1,0]++%7R++[UInt8.ofNat R.vars.length,%6P,%6O,%6N,%6Q])).length<sizeLine:=by
   u Ai;rw[List.length_map,List.length_append,List.length_append,pn];show 4+12+5<sizeLine;decide
  s[Bq,s2.2,if_pos hz];u Ai;rw[List.map_append (l₂:=[0])];a
 h s3:St h (([0x54,0x52,1,0]++%7R++[UInt8.ofNat R.vars.length,%6P,%6O,%6N,%6Q])++[0]) (h2.set h.length (&S(([0x54,0x52,1,0]++%7R++[UInt8.ofNat R.vars.length,%6P,%6O,%6N,%6Q])++[0]))):=⟨s2.1.bh %L,Aq s2.2⟩;generalize h2.set h.length (&S(([0x54,0x52,1,0]++%7R++[UInt8.ofNat R.vars.length,%6P,%6O,%6N,%6Q])++[0]))=h3 at oa s3
 h e3:AI (fLM Bq &M %5w) (%7n%P none) h2=.nx (%7n%P none) h3:=by
  h s2c:=s2.2;generalize Ai ([0x54,0x52,1,0]++%7R++[UInt8.ofNat R.vars.length,%6P,%6O,%6N,%6Q])=X at s2c;xr [fLM,s2c,oa]
 h a3l:(([0x54,0x52,1,0]++%7R++[UInt8.ofNat R.vars.length,%6P,%6O,%6N,%6Q])++[0]).length=22:=by
  rw[List.length_append,List.length_append,List.length_append,pn];a
 generalize ha3:(([0x54,0x52,1,0]++%7R++[UInt8.ofNat R.vars.length,%6P,%6O,%6N,%6Q])++[0])=a3 at s3 a3l;h G3:=s3.rg G hm;h gh:%9jh3=%9Hh3:=&6Q;h l2:(&6A2).length=2:=by simp[le]
 o⟨h4,e4,s4⟩:=s3.ext (σ:=[some #f,%P,none,none,none]) (fe:=Ax 2 Bs (Aa &3I (%1D2))) (cs:=&6A2) (v:=&S(&6A2)) (h1:=h3) rfl (by
  h:=cQ (t:=R.handlers.length) (h:=h3) %w;generalize Bs=F at this ⊢
  xr [gh,G3.len,this]) Kp.refl s3.2 rfl %w
 h G4:=s4.rg G hm
 h hvl:((R.vars++R.mines).flatMap Var.code).length≤16*(R.vars++R.mines).length:=YF λv hv=>by
  h h1:=Hz (rk.vnm v.name (List.mem_map_of_mem hv));h h2:&3F.length=4:=by simp[le32,le]
  show(padded v.name++&3F).length≤16;i1;b
 rw[List.length_append] at hvl;h hl4:h.length<h4.length:=Bo s4.2;h m4:m≤h4.length:=%w
 o⟨h5,e5,s5⟩:=s4.ext (σ:=[some #f,%P,none,none,none]) (fe:=#UCf 0) (cs:=(R.vars++R.mines).flatMap Var.code) (v:=.ref h4.length) (h1:=h4++[.lst (Ai ((R.vars++R.mines).flatMap Var.code))]) rfl (by
  h:=eW G4 m4;generalize Cf=F at this ⊢
  xr [this]) Kp.app (by rw[List.getElem?_append_left hl4];e s4.2) (by s[Em,BX]) (by rw[List.length_append];omega)
 h a5l:(a3++&6A2++(R.vars++R.mines).flatMap Var.code).length≤2000:=by
  rw[List.length_append,List.length_append];b
 h pl:∀{ns:#s},(∀n∈ns,%9z=true)→&6j.length≤12*ns.length:=λhns=>YF λn hn=>Nat.le_of_eq (Hz (hns n hn));h p1:=pl rk.tnm;h p2:=pl rk.snm;h p3:=pl rk.mnm;o⟨y1,h6,e6,s6⟩:=UP (key:="timer") (d:=r0+5) (x3:=none) (x4:=none) s5 G hm rfl %w G.ne.tim rk.tnm %w;o⟨y2,h7,e7,s7⟩:=UP (key:="signal") (d:=r0+6) (x3:=none) (x4:=y1) s6 G hm rfl %w G.ne.sig rk.snm (by rw[List.length_append];omega);o⟨y3,h8,e8,s8⟩:=UP (key:="mode") (d:=r0+7) (x3:=none) (x4:=y2) s7 G hm rfl %w G.ne.mod rk.mnm (by rw[List.length_append,List.length_append];omega);o⟨z3,h9,e9,s9⟩:=dy (x2:=&3V) (x4:=y3) G hm R.handlers 0 _ h8 none rfl (by rw[List.length_append,List.length_append,List.length_append];omega) s8;h G8:=s8.rg G hm;h gh8:%9jh8=%9Hh8:=G8.ob.ga rfl;r⟨h9,?_,?_⟩
 ·rw[e0,oE]
  h e69:rc9 (%7n%P none) h5=.rt ^H h9:=by
   h f1:Et (%8Hk3) (tgN 2) UQ (%7n%P none) h5=.nx (%3l%P&3V none y3) h8:=by
    h i0:Et (%8Hk3) (tgN 2) UQ (%7n%P none) h5=Di (itT k3) (tgN 2) UQ 3 0 (%7n%P none) h5:=rfl;rw[i0,Cv (x:=%1h) (σ2:=[some #f,%P,some %1h,none,none]) rfl rfl,e6,B7,Cv (x:=%0w) (σ2:=[some #f,%P,some %0w,none,y1]) rfl rfl,e7,B7,Cv (x:=%0d) (σ2:=[some #f,%P,&3V,none,y2]) rfl rfl,e8,B7,D5 rfl]
   o⟨qs,q1,q2,q3,q4⟩:=G8.hl;h it:AH &3C h8=some (qs.map .ref):=by s[AH,q1]
   h f2:Et (iL %7L) (tgN 3) hdB (%3l%P&3V none y3) h8=.nx (%3l%P&3V z3 y3) h9:=by
    rw[←e9];generalize hdB=HB;xr [Et,iL,gh8,it,List.length_map,q2.1]
   u rc9;generalize Et (%8Hk3) (tgN 2) UQ=F1 at f1 ⊢;generalize Et (iL %7L) (tgN 3) hdB=F2 at f2 ⊢;xr [f1,f2]
  generalize rc9=C9 at e69 ⊢;generalize ext (%4r1 Ck(%X"name"))=X1 at e1 ⊢;generalize ext (fLc (%8Hkb5) 2 %7x)=X2 at e2 ⊢;generalize AI (fLM Bq &M %5w)=X3 at e3 ⊢;generalize ext (Ax 2 Bs (Aa &3I (%1D2)))=X4 at e4 ⊢;generalize ext (#UCf 0)=X5 at e5 ⊢;xr [l0,e1,e2,e3,e4,e5,e69]
 ·rw[s9.2,←ha3];congr 3;u Rules.code;s[List.append_assoc,List.flatMap_append,List.cons_append,List.nil_append]
end
section
variable{H:List O}{sh:Nat}{T:Table}{B:Book}{σ:Sa}
%diK:%9n:=[((%C"switch"),(%3u"switches")),((%C"lamp"),(%3u"lamps")),((%C"coil"),(%3u"coils")),((%C"device"),(%3u"devices")),((%C"show"),&j)]
%toz:Gz=Ag (&p"table"&M) (&p"names"(Hn iK)):=rfl
%teX(tab:H[0]? =some (HU .hole %I 0)):BK [#H,#I,&2y] (H++[.ins "Setting" []])=#t(H++[.ins "Setting" [("table",#I),("names",%3I)],%1o]):=by
 h e0:BK [#H,#I,&2y] (H++[.ins "Setting" []])=fin (Gz [%4E,%0N,%esh] (H++[.ins "Setting" []])):=by u BK;rw[Cg];rfl
 rw[e0,oz];h a1:Fj "table" #I #H (H++[.ins "Setting" []])=#z(H++[.ins "Setting" [("table",#I)]]):=by rw[sa0 (by simp)];rfl
 h ga:∀{M:%a} {f:Str} {x:W},(UM %I.balls %I.drained).lookup f=%v→%4pf(H++M)=.ok x (H++M):=by
  intro M f x hf;r C4 (c:="Table") (fs:=UM %I.balls %I.drained) ?_ hf;rw[List.getElem?_append_left (Bo tab)];e tab
 h p1:N8 iK [%4E,%0N,%esh] (H++[.ins "Setting" [("table",#I)],%l])=.ok [(.str "switch",.ref 1),(.str "lamp",%7y),(.str "coil",.ref 3),(.str "device",.ref 6),(.str "show",&2y)] (H++[.ins "Setting" [("table",#I)],%l]):=by
  h g1:∀{M:%a},%4p"switches"(H++M)=%D1(H++M):=ga rfl;h g2:∀{M:%a},%4p"lamps"(H++M)=%D2(H++M):=ga rfl;h g3:∀{M:%a},%4p"coils"(H++M)=%D3(H++M):=ga rfl;h g4:∀{M:%a},%4p"devices"(H++M)=%D6(H++M):=ga rfl;s[iK,N8,fC,AB,fV,List.getElem?_cons_zero,List.getElem?_cons_succ,A3,g1,g2,g3,g4]
 h d1:Hn iK [%4E,%0N,%esh] (H++[.ins "Setting" [("table",#I)]])=&3o(H++[.ins "Setting" [("table",#I)],%1o]):=by
  u Hn;rw[List.append_assoc,show[O.ins "Setting" [("table",W.ref 0)]]++[O.dct []]=[.ins "Setting" [("table",#I)],%l] from rfl,p1,A3];h hlen:(H++[O.ins "Setting" [("table",W.ref 0)]]).length=H.length+1:=by simp
  rw[hlen,VF];show(if _ then Res.ok (W.ref (H.length+1)) ((H++[O.ins "Setting" [("table",W.ref 0)],%l]).set (H.length+1) _) else _)=_;rw[setAt];a
 h a2:Fj "names" %3I #H (H++[.ins "Setting" [("table",#I)],%1o])=#z(H++[.ins "Setting" [("table",#I),("names",%3I)],%1o]):=by rw[sa0 (by simp)];rfl
 generalize Hn iK=D at d1 ⊢;xr [a1,d1,a2]
%tiH{r:FA}{h0:%a}(tab:H[0]? =some (HU .hole %I 0))(hr:r σ h0=.ok [#I,&2y] H):Cu "Setting" 3 BK r σ h0=&2k(H++[.ins "Setting" [("table",#I),("names",%3I)],%1o]):=by
 h:∀F:FF,F [#H,#I,&2y] (H++[.ins "Setting" []])=#t(H++[.ins "Setting" [("table",#I),("names",%3I)],%1o])→Cu "Setting" 3 F r σ h0=&2k(H++[.ins "Setting" [("table",#I),("names",%3I)],%1o]):=by
  j9
 e this _ (eX tab)
end
%dseT:FS:=#F3(#UEZ 0)(Bz (Cu "Setting" 3 BK (%4k3(Ax 2 CC (%1s(AB "lamps" &J)1)))))
%djQ:FT:=fOr (^p(oI λi j=>^S)%1q(&R16384)) (fOr (^p(oI λi j=>^S)(%4c1)&3Q) (^p(oI λi j=>^S)(%4c2)&3Q))
%tsj:JD=Ag (#GjQ(AQ "TooLong" (mkRef (-2)) Ad)) (OQ 4 seT [(["Fault"],.inr ("FaultySetting",[("number",-8)]))]):=rfl
%teJ{SP:O}{X:TS}{i:Nat}(h:i<11):HU SP X i=HU .hole X i:=by
 h hz:i=0∨i=1∨i=2∨i=3∨i=4∨i=5∨i=6∨i=7∨i=8∨i=9∨i=10:=%w;rcases hz with z|z|z|z|z|z|z|z|z|z|z<;>subst z<;>rfl
structure pQ(T:Table)(B:Book)(st:Nat)(h:%a):Prop where
 n:∃n,^o
 nb:B.length≤32
 sh:∃sh,StO h st sh∧h[sh]? =#g(Ji B)
 tab:∀i,i<11→h[i]? =some (HU .hole %I i)
%tl9{tb bk:Bytes}{x2:&F}(h1:tb.length≤16384)(h2:bk.length≤65536):
 Dq (seT [%0Etb,%8y,x2,none] []) (readTable tb>>= λT=>T.readBook bk>>= λB=>pure (T,B)) (λa r=>∃st h,r=.rt %6k h∧pQ a.1 a.2 st h):=by
 h hT:=EN h1;u seT;generalize hMk:(Cu "Setting" 3 BK (%4k3(Ax 2 CC (%1s(AB "lamps" &J)1))))=Mk;generalize EZ=F at hT ⊢;xr [];r %3qhT;rintro T v g1 ⟨rfl,TG,K⟩;h D:%8Jg1 2(λs=>%0x):=%7Z2;h hB:=FN (bs:=bk) (T:=T) h2 D;h gl:%4p"lamps"g1=%D2 g1:=TG.ga rfl;rw[←hMk]
 cases hs:T.readBook bk with
 |error F2=>
  rw[hs] at hB;h hB:CC [%7y,%4W] g1=&1uF2:=hB
  h hr:(%4k3(Ax 2 CC (%1s(AB "lamps" &J)1))) [some %3w,%8y,x2,%0N] g1=&1uF2:=by
   generalize CC=F3 at hB ⊢;xr [gl,hB]
  h hm:Cu "Setting" 3 BK (%4k3(Ax 2 CC (%1s(AB "lamps" &J)1))) [%0Etb,%8y,x2,%0N] g1=&1uF2:=by
   generalize BK=G;s[Cu,hr,N9]
  rw[hm]
  rfl
 |ok B=>
  rw[hs] at hB;o⟨v,g2,ev,rfl,hsh,lo,nb⟩:=hB
  h hr:(%4k3(Ax 2 CC (%1s(AB "lamps" &J)1))) [some %3w,%8y,x2,%0N] g1=.ok [#I,.ref (g1.length+1)] g2:=by
   generalize CC=F3 at ev ⊢;xr [gl,ev]
  h hl12:=TG.lt
  h tab:∀i,i<11→g2[i]? =some (HU .hole %I i):=λi hi=>by
   rw[lo i %w,TG i %w,eJ hi]
  h mk:=iH (T:=T) (tab 0 (by decide)) hr;rw[mk,F6];r⟨g2.length,_,rfl,⟨_,K⟩,nb,⟨g1.length+1,⟨OG.1,OG.2⟩,?_⟩,λi hi=>?_⟩
  ·rw[List.getElem?_append_left (Bo hsh)];e hsh
  ·h:=tab i hi;rw[List.getElem?_append_left (Bo this)];G
%tjP{a b c:Bytes}{x3:&F}{h:%a}:jQ [%0Ea,%0Eb,%0Ec,x3] h=%s(decide (16384<a.length)||(decide (65536<b.length)||decide (65536<c.length))):=by
 h e:∀(n k:Nat),decide ((k:Int)<(n:Int))=decide (k<n):=by
  intro n k;by_cases q:k<n
  ·rw[decide_eq_true q,&0g]
  ·rw[decide_eq_false q,&0f]
 h e1:=e a.length 16384;h e2:=e b.length 65536;h e3:=e c.length 65536;s[Int.cast_ofNat_Int] at e1 e2 e3;xr [jQ,DU,nW,e1,e2,e3]
 cases decide (16384<a.length) with
 |true=>xr [Bool.true_or]
 |false=>
  xr [Bool.false_or,DU,nW,e2,e3]
  cases decide (65536<b.length) with
  |true=>xr [Bool.true_or]
  |false=>xr [Bool.false_or,DU,nW,e3]
%dZl(tb bk rl:Bytes):Except (Str×Int) (Table×Book):=if 16384<tb.length∨65536<bk.length∨65536<rl.length then .error ("TooLong",-2) else match readTable tb with
 |.error _=>.error ("FaultySetting",-8)
 |.ok T=>match T.readBook bk with
  |.error _=>.error ("FaultySetting",-8)
  |.ok B=>.ok (T,B)
%tZn{tb bk rl:Bytes}:match Zl tb bk rl with
 |.error x=>Cq [%3w,%4W,%4m] []=.exc x.1 [("number",x.2)]
 |.ok a=>∃st h,Cq [%3w,%4W,%4m] []=%Dst h∧pQ a.1 a.2 st h:=by
 h e0:Cq [%3w,%4W,%4m] []=fin (JD [%0Etb,%8y,%0Erl,none] []):=by u Cq;rw[Cg];rfl
 rw[e0,sj];h lc:=jP (a:=tb) (b:=bk) (c:=rl) (x3:=none) (h:=[]);u Zl;by_cases q:16384<tb.length∨65536<bk.length∨65536<rl.length
 ·h:(decide (16384<tb.length)||(decide (65536<bk.length)||decide (65536<rl.length)))=true:=by
   rcases q with z|z|z
   ·rw[decide_eq_true z];a
   ·rw[decide_eq_true z];i
   ·rw[decide_eq_true z];i
  rw[this] at lc;a5;generalize jQ=C at lc ⊢;generalize seT=E;xr [lc,mkRef]
 ·h:(decide (16384<tb.length)||(decide (65536<bk.length)||decide (65536<rl.length)))=false:=by
   rw[decide_eq_false (λz=>q %8x),decide_eq_false (λz=>q %8E),decide_eq_false (λz=>q (^bz))];a
  rw[this] at lc;R;h h1:tb.length≤16384:=Nat.le_of_not_lt λz=>q %8x;h h2:bk.length≤65536:=Nat.le_of_not_lt λz=>q %8E;h H:=l9 (tb:=tb) (bk:=bk) (x2:=%0Erl) h1 h2;generalize jQ=C at lc ⊢
  h hex:∀{F:Fault},seT [%0Etb,%8y,%0Erl,none] []=&0c→fin ((Ag (#GC(AQ "TooLong" (mkRef (-2)) Ad)) (OQ 4 seT [(["Fault"],.inr ("FaultySetting",[("number",-8)]))])) [some %3w,%8y,%0Erl,none] [])=.exc "FaultySetting" [("number",-8)]:=by
   intro F hF;generalize seT=E at hF ⊢;xr [lc,OQ,hF];a
  cases hT:readTable tb with
  |error F=>
   rw[hT] at H
   e hex H
  |ok T=>
   rw[hT,okE] at H
   cases hB:T.readBook bk with
   |error F=>
    rw[hB] at H;s[hB]
    e hex H
   |ok B=>
    rw[hB,okE] at H;o⟨st,h,er,ok⟩:=H;s[hB];r⟨st,h,?_,ok⟩;generalize seT=E at er ⊢;xr [lc,OQ,er]
inductive Mk where
 |ref (c:Str) (n:Int)
 |fault (F:Fault)
 |code (b:Bytes)
%dmkS(tb bk rl:Bytes):Mk:=match Zl tb bk rl with
 |.error x=>.ref x.1 x.2
 |.ok a=>match readRules a.1 a.2 rl with
  |.error F=>.fault F
  |.ok R=>if 65536<R.code.length then .ref "CodeTooLong" (-9) else .code R.code
%dmkC:FE:=%4r1 Eh(Ax 2 Dz (%1s(%1c3 Cq 0 1 2)2))
%tsk:Oq=%B3 mkC(#G(^p(oI λi j=>^S)(%4c3)&3Q)(AQ "CodeTooLong" (mkRef (-9)) Ad))%3U:=rfl
%tiI{tb bk rl:Bytes}{a:Table×Book}(h:Zl tb bk rl=.ok a):rl.length≤65536:=by
 u Zl at h;L
 ·c h
 ·T;e Nat.le_of_not_lt λz=>q (^bz)
%tRa{tb bk rl:Bytes}:match mkS tb bk rl with
 |.ref c n=>CD [%3w,%4W,%4m] []=.exc c &6F
 |.fault F=>CD [%3w,%4W,%4m] []=&0c
 |.code b=>∃c h,CD [%3w,%4W,%4m] []=%Dc h∧h[c]? =%5Xb:=by
 h e0:CD [%3w,%4W,%4m] []=fin (Oq [%0Etb,%8y,%0Erl,none] []):=by u CD;rw[Cg];rfl
 rw[e0,sk];h hs:=Zn (tb:=tb) (bk:=bk) (rl:=rl)
 h hk:mkC [%0Etb,%8y,%0Erl,none] []=(Cq [%3w,%4W,%4m] []).bind λx h1=>(Dz [x,%4m] h1).bind λy h2=>Eh [y] h2:=by
  u mkC;generalize Cq=F1;generalize Dz=F2;generalize Eh=F3;xr []
 u mkS
 cases hS:Zl tb bk rl with
 |error x=>
  rw[hS] at hs;h hs:Cq [%3w,%4W,%4m] []=.exc x.1 [("number",x.2)]:=hs;rw[hs,N9] at hk;generalize mkC=M at hk ⊢;v
  xr [hk]
 |ok a=>
  rw[hS] at hs;o⟨st,h,e1,ok⟩:=hs;rw[e1,A3] at hk;o⟨⟨n,TK⟩,nb,⟨sh,S0,hsh⟩,tab⟩:=ok;h hr:=ER S0 tab hsh TK nb (iI hS);v
  cases hR:readRules a.1 a.2 rl with
  |error F=>
   rw[hR] at hr;h hr:Dz [%6k,%4m] h=&0c:=hr;rw[hr,N9] at hk;generalize mkC=M at hk ⊢;v
   xr [hk]
  |ok R=>
   rw[hR] at hr;o⟨v,h2,e2,rfl,hn,m,ls,hm,G⟩:=hr;rw[e2,A3] at hk;o⟨h3,e3,hc⟩:=fg G hm hn;rw[e3] at hk
   h ol:BM [.ref h2.length] h3=.ok (.int (R.code.length:Nat)) h3:=by
    s[BM,NO,hc,Ai,List.length_map]
   v;generalize mkC=M at hk ⊢;by_cases q:65536<R.code.length
   ·h q2:decide ((65536:Int)<(R.code.length:Nat))=true:=decide_eq_true %w;a5;xr [hk,ol,q2,mkRef]
   ·h q2:decide ((65536:Int)<(R.code.length:Nat))=false:=decide_eq_false %w;R;xr [hk,ol,q2];e⟨_,h3,rfl,hc⟩
%doK(l:%1L):W:=.lst (l.map .int)
%dVx(tb bk rl:Bytes):%1L:=match mkS tb bk rl with
 |.ref _ n=>[n]
 |.fault F=>[-6,(F.kind:Int),(F.place:Int)]
 |.code _=>[0]
%tgf{tb bk rl:Bytes}:Vx tb bk rl=(TiltRuleCalls.answer (.judge tb bk rl)).code::(TiltRuleCalls.answer (.judge tb bk rl)).nums:=by
 u Vx mkS Zl TiltRuleCalls.answer TiltRuleCalls.ofBook;s[show TiltRuleCalls.RULES=65536 from rfl,show TiltRuleCalls.BOOKTEXT=65536 from rfl,show TEXT=16384 from rfl,show CODE=65536 from rfl];by_cases q3:65536<rl.length
 ·rw[if_pos (^bq3),if_pos q3];a
 ·rw[if_neg q3];by_cases q:16384<tb.length∨65536<bk.length
  ·rw[if_pos (q.elim .inl λz=>%8E),%7i];a
  ·rw[if_neg (by rintro(z|z|z);e q %8x;e q (.inr z);e q3 z),%3V]
   cases readTable tb with
   |error F=>rfl
   |ok T=>
    v
    cases T.readBook bk with
    |error F=>rfl
    |ok B=>
     v
     cases readRules T B rl with
     |error F=>rfl
     |ok R=>
      v;by_cases q4:65536<R.code.length
      ·rw[if_pos q4,if_pos q4];a
      ·rw[if_neg q4,&2b];a
%tuM:YT=Ag (OQ 5 (AI (%1c3 CD 0 1 2)) [(["TooLong","FaultySetting","CodeTooLong"],.inl (3,(Bz (%1AoLst(fUn (VE "number") &J))))),(["Fault"],.inl (4,(Bz (%4U(%8P(-6)(%1R(fUn (VE "kind") %0l)(fUn (VE "place") %0l)))))))]) (Bz &5n):=rfl
%tnB{tb bk rl:Bytes}{c:Str}{n:Int}(h:mkS tb bk rl=.ref c n):c="TooLong"∨c="FaultySetting"∨c="CodeTooLong":=by
 u mkS Zl at h;L
 ·rename_i x hx;c h;split at hx
  ·c hx;e %U
  ·split at hx
   ·c hx;e &3w
   ·split at hx
    ·c hx;e &3w
    ·c hx
 ·L
  ·c h
  ·L
   ·c h;e ^brfl
   ·c h
%tfh{tb bk rl:Bytes}:∃h,Mp [%3w,%4W,%4m] []=%s(oK (Vx tb bk rl)):=by
 h e0:Mp [%3w,%4W,%4m] []=fin (YT [%0Etb,%8y,%0Erl,none,none] []):=by u Mp;rw[Cg];rfl
 rw[e0,uM];h hm:=Ra (tb:=tb) (bk:=bk) (rl:=rl);u Vx
 cases hk:mkS tb bk rl with
 |ref c n=>
  rw[hk] at hm;h hm:CD [%3w,%4W,%4m] []=.exc c &6F:=hm
  h hcm:c∈(["TooLong","FaultySetting","CodeTooLong"]:%u):=by
   rcases nB hk with z|z|z<;>subst z
   ·e List.mem_cons_self ..
   ·e #a(List.mem_cons_self ..)
   ·e #a(#a(List.mem_cons_self ..))
  h gx:VE "number" (.xc c &6F) []=.ok (.int n) []:=rfl;h ol:oLst [.int n] []=.ok (oK [n]) []:=rfl;generalize CD=F at hm ⊢;r⟨[],?_⟩;v
  xr [OQ,hm,OU,if_pos hcm,bF,gx,ol]
 |fault F=>
  rw[hk] at hm;h hm:CD [%3w,%4W,%4m] []=&0c:=hm;h hcm:¬(("Fault":Str)∈(["TooLong","FaultySetting","CodeTooLong"]:%u)):=by decide+kernel
  h hcm2:(("Fault":Str)∈(["Fault"]:%u)):=List.mem_cons_self ..;h gx:VE "kind" (.xc "Fault" (fx F)) []=.ok (.int (F.kind:Int)) []:=rfl;h gx2:VE "place" (.xc "Fault" (fx F)) []=.ok (.int (F.place:Int)) []:=rfl;h ol:oLst [.int (-6),.int (F.kind:Int),.int (F.place:Int)] []=.ok (oK [-6,(F.kind:Int),(F.place:Int)]) []:=rfl;generalize CD=Fm at hm ⊢;r⟨[],?_⟩;v
  xr [OQ,hm,OU,if_neg hcm,if_pos hcm2,bF,gx,gx2,ol]
 |code b=>
  rw[hk] at hm;o⟨c,h,e1,hc⟩:=hm;h ol:oLst %9p h=%s(oK [0]):=rfl;generalize CD=F at e1 ⊢;r⟨h,?_⟩;v;xr [OQ,e1,ol]
end JU
namespace JU
open PySem PySem.Spec PyProof.Rows L2 L2.G
variable [NC]
%dvw{K:PySem.W.Frag}{x qual:Str}{st:Stmt}{ps:%u}{f:Addr}{oc:Value}{od an:%0v}{osl:&3n}{kV doc pm cdv ct:Value}(l:K.lookup f=some ⟨oc,od,.func (PySem.W.fnOf x qual (OL st) %4V #e .none kV doc pm an cdv ct),osl⟩)(c:PySem.W.codeIn K cdv qual=true)(k:%1iK f=true)
 (b:∀(kV doc pm:Value) (an:%0v) (cdv ct:Value) (us:%o),us.length=ps.length→bindArgs (PySem.W.fnOf x qual (OL st) %4V #e .none kV doc pm an cdv ct) %9R=pure %3P):Df K x qual st ps:=⟨f,_,j7 l c k,(j7 l c k).binds b⟩
%dRVW(g:Wd)(v:Value)(x:W):Prop:=∃u,RelV u v∧RW g (λ_=>none) (λ_=>0) 0 x u
inductive cC(g:Wd):%o→%m→Prop
 |nil:cC g [] []
 |cons {v:Value} {x:W} {vs:%o} {xs:%m} (h:RVW g v x) (r:cC g vs xs):cC g (v::vs) (x::xs)
inductive KE(g:Wd):List DictEntry→&u→Prop
 |nil:KE g [] []
 |cons {s:Str} {t:PySem.Tok} {v:Value} {x:W} {es:List DictEntry} {kvs:&u} (h:RVW g v x) (r:KE g es kvs):KE g (⟨hashStr g.w s,.str s t,v⟩::es) ((.inr s,x)::kvs)
section
variable{g:Wd}{mg:Str→Option Value}{h:Heap}
%tqm{i:Int}{t:PySem.Tok}:RVW g (.int i t) ^x:=⟨.int i,⟨t,rfl⟩,.int⟩
%tqj{s:Str}{t:PySem.Tok}:RVW g (.str s t) (.str s):=⟨.str s,⟨t,rfl⟩,.str⟩
%tqk:RVW g .none .non:=⟨.non,rfl,.non⟩
%ttJ{x:Str}{a:Addr}(h:g.fn x=&1i):RVW g %N (.fn x):=⟨.ref a,rfl,.fn h⟩
%tvm{vs:%o}{xs:%m}(h:cC g vs xs):∃us,Vals us vs∧RWs g (λ_=>none) (λ_=>0) 0 xs us:=by
 induction h with
 |nil=>e⟨[],.nil,.nil⟩
 |cons h r ih=>
  o⟨u,h1,h2⟩:=h;o⟨us,h3,h4⟩:=ih;e⟨u::us,.cons h1 h3,.cons h2 h4⟩
%tqi{a:Addr}{its:%0G}{k:Nat}{sl:&3n}{xs:%m}(l:g.K.lookup a=some ⟨#M,none,.seq its k,sl⟩)(hz:its.size≤sizeLine)(h:cC g its.toList xs):RVW g %N (.ktp xs):=by
 o⟨us,h1,h2⟩:=vm h;e⟨.ref a,rfl,.ktp l rfl rfl rfl hz h1 h2⟩
%trD{es:List DictEntry}{kvs:&u}(h:KE g es kvs):∃(vs:#E) (us:&3d),(∀e∈es,∃k,(Ci g.P g.w).is k e.key=true∧e.hash=(Ci g.P g.w).hash k)∧Pairs (Ci g.P g.w) es us∧us.map (·.1)=kvs.map (·.1)∧KV vs us∧vs.map (·.1)=kvs.map (·.1)∧RWs g (λ_=>none) (λ_=>0) 0 (kvs.map (·.2)) (vs.map (·.2)):=by
 induction h with
 |nil=>e⟨[],[],(λ_ z=>by c z),.nil,rfl,.nil,rfl,.nil⟩
 |@cons s t v x es kvs h r ih=>
  o⟨u,h1,h2⟩:=h;o⟨vs,us,q1,q2,q3,q4,q5,q6⟩:=ih;h ks:NQ (.inr s) (.str s t)=true:=by simp[NQ,Value.isStrOf]
  r⟨(.inr s,u)::vs,(.inr s,v)::us,λe he=>?_,.cons ks rfl q2,by simp[q3],.cons (%4ih1) q4,by simp[q5],.cons h2 q6⟩;rcases List.mem_cons.mp he with z|z
  ·y;e⟨.inr s,ks,rfl⟩
  ·e q1 e z
%ttI{a:Addr}{es:%4B}{ep:Nat}{kvs:&u}(l:g.K.lookup a=some ⟨%1z,none,%1Q,#[]⟩)(hs:(a==sysModules)=false)(hk:KE g es.toList kvs)(hn:(kvs.map (·.1)).Nodup)(hl:kvs.length≤sizeLine):RVW g %N (.kd kvs):=by
 o⟨vs,us,q1,q2,q3,q4,q5,q6⟩:=rD hk;r⟨.ref a,rfl,.kd (vs:=vs) (λh X=>⟨hs,?_,us,q4,_,es,ep,X _ _ l,⟨rfl,rfl,rfl⟩,rfl,λe he=>q1 e (by simpa using he),q2,by rw[q3];e hn⟩) q5.symm q6⟩;h:=%8Yq5;s[List.length_map] at this;b
%tBB{x:Str}{v:Value}{y:W}(X:g.K.In h)(G:h.Ns mainGlobals mg)(e:PySem.W.nsIn g.K mainGlobals x=&1T)(r:RVW g v y):GV g mg x y:=by
 o⟨u,h1,h2⟩:=r;e⟨u,v,PySem.W.mg_of X G e,h1,h2⟩
%tEs{f:Str}{l:#O}(hc:g.cls=λc=>l.lookup c)(hk:∀p∈l,Cls g.K p.2)(hf:(l.all λp=>PySem.W.findIn g.K (.ref p.2) f==%8e)=true):NA g f:=by
 intro c C e;rw[hc] at e;h e:l.lookup c=#h:=e
 h mem:∀l:#O,l.lookup c=#h→∃k,(k,C)∈l:=by
  intro l
  induction l with
  |nil=>intro z;c z
  |cons p l ih=>
   o⟨k,a⟩:=p;intro z;s[List.lookup] at z;split at z
   ·c z;e⟨k,List.mem_cons_self ..⟩
   ·o⟨k',h'⟩:=ih z;e⟨k',#ah'⟩
 o⟨k,hm⟩:=mem l e;e⟨hk _ hm,by simpa [JH] using List.all_eq_true.mp hf _ hm⟩
end
end JU
namespace JU
open PySem PySem.Spec PyProof.Rows L2 L2.G
@[reducible] def nc0:NC:=⟨λa=>a=71⟩
attribute [local instance] nc0
%dkR:#O:=[("Handler",205),("Line",352),("Rules",416),("Book",539),("Table",582),("Setting",674)]
%dlO:#O:=[("CodeTooLong",512),("Fault",71),("FaultySetting",492),("TooLong",472)]
%dfnL:#O:=[("read_head",593),("read_switch",607),("read_lamp",614),("read_coil",621),("read_device",642),("read_kick",649)]
%dgW(P:Program)(w:World)(K:PySem.W.Frag):Wd:=⟨P,w,K,λc=>kR.lookup c,λc=>lO.lookup c,λc=>fnL.lookup c⟩
%dxi0:Addr→Addr:=λC=>if C=512 then 509 else if C=71 then 68 else if C=492 then 489 else 469
%to6:∀(c:Str) (C:Addr),lO.lookup c=#h→(c="CodeTooLong"∧C=512)∨(c="Fault"∧C=71)∨(c="FaultySetting"∧C=492)∨(c="TooLong"∧C=472):=by
 intro c C e
 s[lO,List.lookup] at e
 split at e
 ·rename_i z;c e;e .inl &6a
 ·split at e
  ·rename_i z;c e;e %7O&6a
  ·split at e
   ·rename_i z;c e;e ^b(.inl &6a)
   ·split at e
    ·rename_i z;c e;e .inr (^b&6a)
    ·c e
%thc0{K:PySem.W.Frag}(h1:Cls K 205)(h2:Cls K 352)(h3:Cls K 416)(h4:Cls K 539)(h5:Cls K 582)(h6:Cls K 674):∀p∈kR,Cls K p.2:=by
 intro p hp
 s[kR,List.mem_cons,List.not_mem_nil,or_false] at hp
 rcases hp with z|z|z|z|z|z<;>subst z<;>assumption
%tuV{K:PySem.W.Frag}(h1:C7 K 512 509=true)(h2:C7 K 71 68=true)(h3:C7 K 492 489=true)(h4:C7 K 472 469=true):∀C,(∃c,lO.lookup c=#h)→C7 K C (xi0 C)=true:=by
 rintro C ⟨c,e⟩
 rcases o6 c C e with⟨_,z⟩|⟨_,z⟩|⟨_,z⟩|⟨_,z⟩<;>subst z
 ·e h1
 ·e h2
 ·e h3
 ·e h4
macro "b1":term=>`(fun _ _ _ _ _ _ us hl=>match us,hl with|[_],_=>rfl)
macro "b2":term=>`(fun _ _ _ _ _ _ us hl=>match us,hl with|[_,_],_=>rfl)
macro "b3":term=>`(fun _ _ _ _ _ _ us hl=>match us,hl with|[_,_,_],_=>rfl)
macro "b4":term=>`(fun _ _ _ _ _ _ us hl=>match us,hl with|[_,_,_,_],_=>rfl)
syntax "kz":tactic
syntax "rvt":tactic
syntax "rvs":tactic
syntax "rke":tactic
macro "df" n:num b:term:tactic=>`(tactic|(refine' JU.vw (f:=$n) ?l ?c ?k ?b;(case l=>kz);(case c=>kz);(case k=>kz);(case b=>exact$b)))
macro_rules|`(tactic|rvt)=>`(tactic|first|exact JU.qm|exact JU.qj|exact JU.qk|exact JU.tJ (by kernel_rfl)|(refine' JU.qi ?l ?z ?r;(case l=>kz);(case z=>decide);(case r=>rvs))|(refine' JU.tI ?l ?s ?k ?n ?z;(case l=>kz);(case s=>decide);(case k=>rke);(case n=>decide+kernel);(case z=>decide)))
macro_rules|`(tactic|rvs)=>`(tactic|first|exact JU.cC.nil|(refine' JU.cC.cons ?h ?r;(case h=>rvt);(case r=>rvs)))
macro_rules|`(tactic|rke)=>`(tactic|first|exact JU.KE.nil|(refine' JU.KE.cons ?h ?r;(case h=>rvt);(case r=>rke)))
end JU
namespace L2
open PySem PySem.Spec PyProof.Rows
open PySem.W (WData Codec OpenSpec Well WellAll ReadsW ReadsAllW)
%taQ{r:OpenSpec}{k:Nat}{q:Program}{loose:%u}{XP:(Str→&f)→Heap→Prop}{YP:World→Heap→Prop}{d:DefRec}{K:Params→PySem.W.Frag}{CX:World→CXT}{ps:%u}{sp:PySem.W.Frag→World→Sp}
 (hwell:r.wellSaid=true) (hdf:d.params.defaults=[]) (hlen:r.args.length=ps.length) (hr:D3 k callerA) (hY:∀(w:World) (h:Heap),YP w h→%5q.In h)
 (F:∀(w:World) (mg:Str→&f) (fa:Addr) (h:Heap),YP w h→%5q.In h→h.Ns mainGlobals mg→mg d.name=%efa→∃fd:FuncData,(∀(s:Shared) (us:%o),us.length=ps.length→BindsTo s fd %9R %3P)∧∀base:Heap,%5q.In base→&4Emg→BC r.prog w %5q mg base (CX w) k fa fd ps (sp %5q w))
 (hsp:∀(K:PySem.W.Frag) (w:World) (H:Hp) (xs:%c) (a:Codec.denoteAll r.args),aJ H→Codec.withinAll r.args a=true→Codec.app r.args r.asked a=true→LM K H xs (Codec.encAll r.args a)→sp K w xs H (λv H'=>Dw K H' v (r.ret.enc (Codec.app r.args r.f a))) λ_ _ _=>False)
 (hCX:∀(w:World) (H:Hp) (s:Shared) (e:Value) (s':Shared),CX w [] H s (λ_ _ _=>False) e s'→False):PySem.W.WalkOS q loose XP YP r d [] (λf vs=>PySem.call f vs):=
 eg (K:=K) (CX:=CX) (sp:=λw=>sp %5q w) hwell hdf hlen hr hY F (λw H xs a h1 h2 h3 h4=>hsp %5q w H xs a h1 h2 h3 h4) hCX
end L2
namespace JU
open PySem PySem.Spec PyProof.Rows L2 L2.G Tilt
attribute [local instance] nc0
%taV{l:%1L}(h:∀z∈l,0≤z∧z≤255):Au (RuleNeutral.text l)=.arg (l.map .int):=by
 u Au RuleNeutral.text RuleNeutral.nats;rw[List.map_map,List.map_map];n;apply List.map_congr_left;intro z hz;o⟨h1,h2⟩:=h z hz;d1;rw[CS %w];show W.int ((z.toNat:Nat):Int)=W.int z;rw[Int.toNat_of_nonneg h1]
%tQ9{g:Wd}{F:Hp}{m:Nat→Addr}{n:Nat}:∀l:%1L,RWs g F m n (l.map W.int) (l.map V.int)
 |[]=>.nil
 |_::l=>.cons .int (Q9 l)
%tZZ{g:Wd}{F:Hp}{m:Nat→Addr}{n:Nat}:∀(l:%1L) (vs:%c),RWs g F m n (l.map W.int) vs→vs=l.map V.int
 |[],_,h=>by c h;rfl
 |_::l,_,h=>by
  cases h with
  |cons h r=>
   c h;rw[ZZ l _ r];a
%tvB(P:Program)(w:World)(H:Hp)(s:Shared)(e:Value)(s':Shared)(h:CXA P w [] H s (λ_ _ _=>False) e s'):False:=by
 o⟨C,H',e',d,T,_,_,_,_,_,_,_,_,_,q⟩:=h;e q
%tgi(P:Program){K:PySem.W.Frag}{w:World}{H:Hp}{xs:%c}{t b r:%1L}(h1:∀z∈t,0≤z∧z≤255)(h2:∀z∈b,0≤z∧z≤255)(h3:∀z∈r,0≤z∧z≤255)(hx:LM K H xs [.list (t.map .int),.list (b.map .int),.list (r.map .int)]):
 wF0 (gW P w K) 3 Mp xs H (λv H'=>Dw K H' v (.list ((PyWqaqcd.judge t b r).map .int))) λ_ _ _=>False:=by
 cases hx with
 |cons q1 hx=>
  cases hx with
  |cons q2 hx=>
   cases hx with
   |cons q3 hx=>
    c hx
    cases q1 with
    |lst s1 d1=>
     cases q2 with
     |lst s2 d2=>
      cases q3 with
      |lst s3 d3=>
       have e1:=Uy _ _ d1;h e2:=Uy _ _ d2;h e3:=Uy _ _ d3;subst e1 e2 e3;h R0:Rep (gW P w K) H (λ_=>0) [] H:=⟨λ_ _ z=>z,λi hi=>%7Mhi _,λi j hi=>%7Mhi _,λi o z=>by simp at z⟩;o⟨h',ej⟩:=fh (tb:=RuleNeutral.text t) (bk:=RuleNeutral.text b) (rl:=RuleNeutral.text r);rw[aV h1,aV h2,aV h3] at ej;r⟨H,λ_=>0,[],[.arg (t.map .int),.arg (b.map .int),.arg (r.map .int)],R0,.cons (.arg s1 (Q9 t)) (.cons (.arg s2 (Q9 b)) (%4P(.arg s3 (Q9 r)))),rfl,?_⟩;rw[ej];intro F' m' H' v R rv;h ea:Vx (RuleNeutral.text t) (RuleNeutral.text b) (RuleNeutral.text r)=PyWqaqcd.judge t b r:=gf;rw[ea] at rv
       cases rv with
       |lst hf rr=>
        have:=ZZ _ _ rr;subst this;e .lst (SqL.of (R.frz _ _ hf)) (dF _)
%tuC{P:Program}{w:World}{K:PySem.W.Frag}{mg:Str→&f}{h:Heap}{fa:Addr}(KX:%6m)(G:h.Ns mainGlobals mg)(hmg:mg "judge"=%efa)(HC:∀p∈kR,Cls K p.2)(L:(∀p∈kR,Cls K p.2)→Lk (gW P w K) mg):
 ∃fd:FuncData,(∀(s:Shared) (us:%o),us.length=(["table","book","rules"]:%u).length→BindsTo s fd %9R ((["table","book","rules"]:%u).zip us))∧∀base:Heap,K.In base→&4Emg→BC P w K mg base (CXA P w) 15 fa fd ["table","book","rules"] (wF0 (gW P w K) 3 Mp):=by
 h L:=L HC;h e:=L.c8.symm.trans hmg
 h e:L.judge.f=fa:=by
  simpa using e
 p;r⟨L.judge.fd,λs us hu=>?_,λbase _ _=>jx L⟩;o⟨oc,od,kV,doc,pm,an,cdv,ct,osl,hfd,lk,hcd⟩:=L.judge.F.ex;rw[hfd];e match us,hu with|[_,_,_],_=>.of_eq rfl
end JU
macro_rules|`(tactic|kz)=>`(tactic|((try dsimp only[JU.gW]);k_is))
open PySem PySem.W PyProof.Rows
attribute [local instance] JU.nc0
set_option maxRecDepth 100000 in
set_option maxHeartbeats 0 in
theorem PySem.Challenge.cw_tablerules_s01_judge_holds:PySem.Challenge.rw_tablerules_s01_judge.Holds:=by
 w_on;k_headS;(case hw=>exact⟨[.list [],.list [],.list []],by decide+kernel,by decide+kernel⟩)
 k_fillS
 refine L2.aQ (r:=PySem.Challenge.rw_tablerules_s01_judge) (k:=15) (CX:=fun w=>L2.G.CXA PySem.Challenge.rw_tablerules_s01_judge.prog w) (ps:=["table","book","rules"]) (sp:=fun K w=>L2.G.wF0 (JU.gW PySem.Challenge.rw_tablerules_s01_judge.prog w K) 3 JU.Mp) (by decide+kernel) rfl rfl ⟨rfl,by decide,by decide⟩ (fun w h Y=>PySem.W.kIn_of Y) ?F ?S (fun w H s e s'=>JU.vB _ w H s e s')
 case F=>
  intro w mg fa h Y KX G hmg
  refine JU.uC KX G hmg ?HC ?L
  case HC=>exact JU.hc0 ⟨by kz,by kz,by kz,by kz⟩ ⟨by kz,by kz,by kz,by kz⟩ ⟨by kz,by kz,by kz,by kz⟩ ⟨by kz,by kz,by kz,by kz⟩ ⟨by kz,by kz,by kz,by kz⟩ ⟨by kz,by kz,by kz,by kz⟩
  case L=>
   intro HC
   exact{
   Gs:=by df 23 b1,
   RE:=PySem.W.mg_of KX G (by kz),
   Ey:=by df 30 b1,
   Kh:=PySem.W.mg_of KX G (by kz),
   Cz:=by df 35 b2,
   F8:=PySem.W.mg_of KX G (by kz),
   DJ:=by df 42 b1,
   Ll:=PySem.W.mg_of KX G (by kz),
   EY:=by df 49 b1,
   NK:=PySem.W.mg_of KX G (by kz),
   Gp:=by df 54 b1,
   RA:=PySem.W.mg_of KX G (by kz),
   EH:=by df 406 b2,
   DR:=by df 363 b1,
   IP:=PySem.W.mg_of KX G (by kz),
   Cy:=by df 413 b1,
   An:=by df 68 b3,
   Fy:=by df 370 b3,
   Pj:=PySem.W.mg_of KX G (by kz),
   Ep:=by df 265 b4,
   Jh:=by df 375 b1,
   Vr:=PySem.W.mg_of KX G (by kz),
   Fx:=by df 382 b2,
   Mi:=PySem.W.mg_of KX G (by kz),
   BL:=by df 272 b1,
   Dg:=by df 293 b1,
   A9:=by df 286 b1,
   FG:=by df 389 b3,
   NG:=PySem.W.mg_of KX G (by kz),
   IQ:=by df 79 b1,
   SV:=PySem.W.mg_of KX G (by kz),
   CU:=by df 314 b1,
   Cd:=by df 321 b3,
   CM:=by df 86 b1,
   GP:=PySem.W.mg_of KX G (by kz),
   Cn:=by df 93 b1,
   Gg:=PySem.W.mg_of KX G (by kz),
   DH:=by df 342 b1,
   Ek:=by df 434 b3,
   ML:=PySem.W.mg_of KX G (by kz),
   Bk:=by df 328 b2,
   Gn:=by df 216 b2,
   Rz:=PySem.W.mg_of KX G (by kz),
   A0:=by df 300 b2,
   Dh:=by df 202 b3,
   EL:=by df 223 b2,
   NH:=PySem.W.mg_of KX G (by kz),
   Fl:=by df 441 b3,
   Pg:=PySem.W.mg_of KX G (by kz),
   Dl:=by df 279 b2,
   Hy:=by df 126 b3,
   TM:=PySem.W.mg_of KX G (by kz),
   DY:=by df 112 b2,
   Lp:=PySem.W.mg_of KX G (by kz),
   operands:=by df 133 b1,
   Vs:=PySem.W.mg_of KX G (by kz),
   DV:=by df 100 b1,
   Lo:=PySem.W.mg_of KX G (by kz),
   Du:=by df 119 b1,
   Kg:=PySem.W.mg_of KX G (by kz),
   Cr:=by df 140 b2,
   GO:=PySem.W.mg_of KX G (by kz),
   Be:=by df 335 b3,
   DL:=by df 230 b3,
   Lm:=PySem.W.mg_of KX G (by kz),
   DM:=by df 237 b3,
   Ln:=PySem.W.mg_of KX G (by kz),
   Ea:=by df 244 b2,
   Kx:=PySem.W.mg_of KX G (by kz),
   EM:=by df 251 b2,
   NI:=PySem.W.mg_of KX G (by kz),
   Fn:=by df 427 b2,
   Ph:=PySem.W.mg_of KX G (by kz),
   Hw:=by df 448 b2,
   TF:=PySem.W.mg_of KX G (by kz),
   EK:=by df 307 b1,
   ER:=by df 455 b2,
   RD:=PySem.W.mg_of KX G (by kz),
   Cc:=by df 509 b1,
   De:=by df 469 b1,
   EG:=by df 579 b1,
   FK:=by df 593 b2,
   ZT:=PySem.W.mg_of KX G (by kz),
   DK:=by df 600 b3,
   IM:=PySem.W.mg_of KX G (by kz),
   Ed:=by df 607 b2,
   Ws:=PySem.W.mg_of KX G (by kz),
   FH:=by df 614 b2,
   ZR:=PySem.W.mg_of KX G (by kz),
   FL:=by df 621 b2,
   ZU:=PySem.W.mg_of KX G (by kz),
   BV:=by df 628 b2,
   Fs:=PySem.W.mg_of KX G (by kz),
   Hx:=by df 635 b2,
   TH:=PySem.W.mg_of KX G (by kz),
   Ee:=by df 642 b2,
   Wt:=PySem.W.mg_of KX G (by kz),
   C3:=by df 349 b3,
   FJ:=by df 649 b2,
   ZS:=PySem.W.mg_of KX G (by kz),
   EN:=by df 657 b1,
   RC:=PySem.W.mg_of KX G (by kz),
   DG:=by df 671 b3,
   E9:=by df 529 b1,
   Dx:=by df 536 b1,
   Hv:=by df 550 b3,
   TC:=PySem.W.mg_of KX G (by kz),
   Hu:=by df 557 b3,
   TB:=PySem.W.mg_of KX G (by kz),
   FN:=by df 564 b2,
   TJ:=PySem.W.mg_of KX G (by kz),
   BW:=by df 489 b1,
   EO:=by df 685 b3,
   NJ:=PySem.W.mg_of KX G (by kz),
   HE:=by df 692 b3,
   TN:=PySem.W.mg_of KX G (by kz),
   judge:=by df 699 b3,
   c8:=PySem.W.mg_of KX G (by kz),
   LO:=205,
   Te:=by kernel_rfl,
   gb:=⟨by kz,by kz,by kz,by kz⟩,
   SX:=PySem.W.mg_of KX G (by kz),
   P9:=⟨by kz,by kz,by kz,by kz⟩,
   FD:=352,
   Ap:=by kernel_rfl,
   As:=⟨by kz,by kz,by kz,by kz⟩,
   bN:=PySem.W.mg_of KX G (by kz),
   Yx:=⟨by kz,by kz,by kz,by kz⟩,
   ON:=416,
   UD:=by kernel_rfl,
   Yz:=⟨by kz,by kz,by kz,by kz⟩,
   dh:=PySem.W.mg_of KX G (by kz),
   ZO:=⟨by kz,by kz,by kz,by kz⟩,
   To:=539,
   YS:=by kernel_rfl,
   bR:=⟨by kz,by kz,by kz,by kz⟩,
   jN:=PySem.W.mg_of KX G (by kz),
   c6:=⟨by kz,by kz,by kz,by kz⟩,
   Sm:=582,
   dQ:=by kernel_rfl,
   nH:=⟨by kz,by kz,by kz,by kz⟩,
   c9:=PySem.W.mg_of KX G (by kz),
   ZN:=⟨by kz,by kz,by kz,by kz⟩,
   LN:=674,
   Xq:=by kernel_rfl,
   f9:=⟨by kz,by kz,by kz,by kz⟩,
   W0:=PySem.W.mg_of KX G (by kz),
   Vm:=⟨by kz,by kz,by kz,by kz⟩,
   Fd:=⟨by kz,by kz,by kz⟩,
   BR:=⟨by kz,by kz,by kz⟩,
   CN:=⟨by kz,by kz,by kz⟩,
   AJ:=⟨by kz,by kz,by kz⟩,
   Eg:=⟨by kz,by kz,by kz⟩,
   CA:=⟨by kz,by kz,by kz⟩,
   IF:=⟨by kz,by kz,by kz⟩,
   Bt:=⟨by kz,by kz,by kz⟩,
   AV:=⟨by kz,by kz,by kz⟩,
   D6:=⟨by kz,by kz,by kz⟩,
   Bj:=⟨by kz,by kz,by kz⟩,
   GN:=⟨by kz,by kz,by kz⟩,
   EU:=⟨by kz,by kz,by kz⟩,
   Gw:=⟨by kz,by kz,by kz⟩,
   BE:=512,
   Kr:=by kernel_rfl,
   I0:=by kernel_rfl,
   M4:=by kz,
   M3:=by kz,
   Ky:=PySem.W.mg_of KX G (by kz),
   Ew:=71,
   Bm:=by kernel_rfl,
   A4:=by kernel_rfl,
   A6:=by kz,
   A5:=by kz,
   Bp:=PySem.W.mg_of KX G (by kz),
   Bl:=492,
   Il:=by kernel_rfl,
   Hr:=by kernel_rfl,
   KQ:=by kz,
   KP:=by kz,
   Iq:=PySem.W.mg_of KX G (by kz),
   CW:=472,
   Sn:=by kernel_rfl,
   PD:=by kernel_rfl,
   UI:=by kz,
   UH:=by kz,
   SW:=PySem.W.mg_of KX G (by kz),
   Mo:=JU.BB KX G (by kz) (by rvt),
   NX:=JU.BB KX G (by kz) (by rvt),
   FQ:=JU.BB KX G (by kz) (by rvt),
   IH:=JU.BB KX G (by kz) (by rvt),
   Lv:=JU.BB KX G (by kz) (by rvt),
   VC:=JU.BB KX G (by kz) (by rvt),
   OF:=JU.BB KX G (by kz) (by rvt),
   Py:=JU.BB KX G (by kz) (by rvt),
   GU:=JU.BB KX G (by kz) (by rvt),
   Kl:=JU.BB KX G (by kz) (by rvt),
   Jy:=JU.BB KX G (by kz) (by rvt),
   GS:=JU.BB KX G (by kz) (by rvt),
   dA:=JU.BB KX G (by kz) (by rvt),
   RQ:=JU.BB KX G (by kz) (by rvt),
   RP:=JU.BB KX G (by kz) (by rvt),
   RM:=JU.BB KX G (by kz) (by rvt),
   NW:=JU.BB KX G (by kz) (by rvt),
   MR:=JU.BB KX G (by kz) (by rvt),
   KC:=JU.BB KX G (by kz) (by rvt),
   TR:=JU.BB KX G (by kz) (by rvt),
   MQ:=JU.BB KX G (by kz) (by rvt),
   MP:=JU.BB KX G (by kz) (by rvt),
   Px:=JU.BB KX G (by kz) (by rvt),
   Jx:=JU.BB KX G (by kz) (by rvt),
   HN:=JU.BB KX G (by kz) (by rvt),
   MO:=JU.BB KX G (by kz) (by rvt),
   NV:=JU.BB KX G (by kz) (by rvt),
   RL:=JU.BB KX G (by kz) (by rvt),
   RJ:=JU.BB KX G (by kz) (by rvt),
   RI:=JU.BB KX G (by kz) (by rvt),
   Pw:=JU.BB KX G (by kz) (by rvt),
   Pu:=JU.BB KX G (by kz) (by rvt),
   MN:=JU.BB KX G (by kz) (by rvt),
   Pt:=JU.BB KX G (by kz) (by rvt),
   Pr:=JU.BB KX G (by kz) (by rvt),
   RH:=JU.BB KX G (by kz) (by rvt),
   Pq:=JU.BB KX G (by kz) (by rvt),
   Pp:=JU.BB KX G (by kz) (by rvt),
   IG:=JU.BB KX G (by kz) (by rvt),
   Kk:=JU.BB KX G (by kz) (by rvt),
   H0:=JU.BB KX G (by kz) (by rvt),
   Po:=JU.BB KX G (by kz) (by rvt),
   Ft:=JU.BB KX G (by kz) (by rvt),
   Pn:=JU.BB KX G (by kz) (by rvt),
   Pl:=JU.BB KX G (by kz) (by rvt),
   IU:=JU.BB KX G (by kz) (by rvt),
   Mn:=JU.BB KX G (by kz) (by rvt),
   NU:=JU.BB KX G (by kz) (by rvt),
   Ir:=JU.BB KX G (by kz) (by rvt),
   NT:=JU.BB KX G (by kz) (by rvt),
   IS:=JU.BB KX G (by kz) (by rvt),
   VB:=JU.BB KX G (by kz) (by rvt),
   NS:=JU.BB KX G (by kz) (by rvt),
   Z8:=JU.BB KX G (by kz) (by rvt),
   Lu:=JU.BB KX G (by kz) (by rvt),
   MM:=JU.BB KX G (by kz) (by rvt),
   NR:=JU.BB KX G (by kz) (by rvt),
   Pk:=JU.BB KX G (by kz) (by rvt),
   Kj:=JU.BB KX G (by kz) (by rvt),
   GR:=JU.BB KX G (by kz) (by rvt),
   Mm:=JU.BB KX G (by kz) (by rvt),
   Ls:=JU.BB KX G (by kz) (by rvt),
   BJ:=JU.BB KX G (by kz) (by rvt),
   jJ:=PySem.W.mg_none_of KX G (by kz),
   c0:=PySem.W.mg_none_of KX G (by kz),
   Rw:=PySem.W.mg_none_of KX G (by kz),
   jI:=PySem.W.mg_none_of KX G (by kz),
   Cw:=PySem.W.mg_none_of KX G (by kz),
   cZ:=PySem.W.mg_none_of KX G (by kz),
   bL:=PySem.W.mg_none_of KX G (by kz),
   jH:=PySem.W.mg_none_of KX G (by kz),
   Vj:=PySem.W.mg_none_of KX G (by kz),
   jG:=PySem.W.mg_none_of KX G (by kz),
   Gv:=JU.Es rfl HC (by kernel_rfl),
   Ry:=JU.Es rfl HC (by kernel_rfl),
   HX:=JU.Es rfl HC (by kernel_rfl),
   HD:=JU.Es rfl HC (by kernel_rfl),
   E2:=JU.Es rfl HC (by kernel_rfl),
   DQ:=JU.Es rfl HC (by kernel_rfl),
   Gu:=JU.Es rfl HC (by kernel_rfl),
   Mh:=JU.Es rfl HC (by kernel_rfl),
   bM:=JU.Es rfl HC (by kernel_rfl),
   Vk:=JU.Es rfl HC (by kernel_rfl),
   DB:=JU.Es rfl HC (by kernel_rfl),
   Mg:=JU.Es rfl HC (by kernel_rfl),
   HM:=JU.Es rfl HC (by kernel_rfl),
   Fq:=JU.Es rfl HC (by kernel_rfl),
   F7:=JU.Es rfl HC (by kernel_rfl),
   IL:=JU.Es rfl HC (by kernel_rfl),
   Yw:=JU.Es rfl HC (by kernel_rfl),
   NF:=JU.Es rfl HC (by kernel_rfl),
   Ux:=JU.Es rfl HC (by kernel_rfl),
   DP:=JU.Es rfl HC (by kernel_rfl),
   OC:=JU.Es rfl HC (by kernel_rfl),
   GL:=JU.Es rfl HC (by kernel_rfl),
   OB:=JU.Es rfl HC (by kernel_rfl),
   Li:=JU.Es rfl HC (by kernel_rfl),
   Ef:=JU.Es rfl HC (by kernel_rfl),
   Lh:=JU.Es rfl HC (by kernel_rfl),
   HW:=JU.Es rfl HC (by kernel_rfl),
   ND:=JU.Es rfl HC (by kernel_rfl),
   xi:=JU.xi0,
   xcl:=JU.uV (by kernel_rfl) (by kernel_rfl) (by kernel_rfl) (by kernel_rfl),
   pS:=JU.o6,
   Ur:=show¬((_:Addr)=71) by decide,
   WY:=rfl,
   Ke:=show¬((_:Addr)=71) by decide,
   ZJ:=show¬((_:Addr)=71) by decide,
   Fw:=by kernel_rfl,
   Ij:=by kernel_rfl,
   E4:=by kernel_rfl,
   Hb:=by kernel_rfl,
   Ii:=by kernel_rfl,
   Oa:=by kernel_rfl,
   Ha:=by kernel_rfl,
   LB:=by kernel_rfl,
   E3:=by kernel_rfl,
   GZ:=by kernel_rfl,
   ED:=by kernel_rfl,
   Ge:=by kernel_rfl,
   GY:=by kernel_rfl,
   Lz:=by kernel_rfl,
   Gd:=by kernel_rfl,
   JA:=by kernel_rfl,
   RX:=by kernel_rfl,
   NY:=by kernel_rfl,
   RU:=by kernel_rfl,
   RZ:=by kernel_rfl,
   NZ:=by kernel_rfl,
   RV:=by kernel_rfl}
 case S=>
  intro K w H xs a hO hwi hask hx
  have q:((Codec.inLen 0 17000 a.1&&a.1.all (Codec.inInt 0 255))&&((Codec.inLen 0 66000 a.2.1&&a.2.1.all (Codec.inInt 0 255))&&((Codec.inLen 0 66000 a.2.2.1&&a.2.2.1.all (Codec.inInt 0 255))&&true)))=true:=hwi
  simp only[Bool.and_eq_true] at q
  have i1:∀{l:List Int},l.all (Codec.inInt 0 255)=true→∀z∈l,0≤z∧z≤255:=fun{l} hl z hz=>by
   have:=List.all_eq_true.mp hl z hz
   simpa [Codec.inInt] using this
  exact JU.gi _ (i1 q.1.2) (i1 q.2.1.2) (i1 q.2.2.1.2) hx
#print axioms PySem.Challenge.cw_tablerules_s01_judge_holds
