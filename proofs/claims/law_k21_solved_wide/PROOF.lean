import PyProof.Rows.All
import Wide.All
import OpenK.AllK
import Wide.FinOn
import Lean
import PyProof.EqAt
import PyProof.EqKinds
import PyProof.TupleCall
import KE.KDictList
import KE.KDictOf
import KE.KDictSum
import KE.KEqDict
import KE.KMinBuiltin
import KE.KRevIter
import OpenK.KCls
import OpenK.KOwn
import PyProof.AutoSeq1
import PyProof.CollectWalk
import PyProof.DictUpdate
import PyProof.EnumIter
import PyProof.EnumMake
import PyProof.EnumStmt
import PyProof.ExcArgs
import PyProof.ExcBaseAll.ValueError
import PyProof.ExcClass2
import PyProof.ExcInit
import PyProof.FString5
import PyProof.InstStoreFacts
import PyProof.IsInstance
import PyProof.IsiH_list
import PyProof.LayNew
import PyProof.ListRange
import PyProof.NeKinds
import PyProof.NsDelKeeps
import PyProof.Rows.All
import PyProof.Rows.CallKwBuiltin
import PyProof.Rows.RuleN_abs
import PyProof.Rows.SetFrom
import PyProof.Rows.SortWalk
import PyProof.Rows.TupAdd
import PyProof.RulesAs
import PyProof.StationsW
import PyProof.TupleIter
import PyProof.TupleOfGen
import PyProof.WalkInts
import PyProof.WalksMore
import PySem.Challenge.RW_clausekeep_k21_solved_wide
set_option Elab.async false
set_option bootstrap.genMatcherCode false
set_option linter.all false
set_option maxRecDepth 100000
theorem f9 {p q:Prop}{C:Prop}(h:p∧q)(f:p→q→C):C:=f h.1 h.2
theorem n8 {p q r:Prop}{C:Prop}(h:p∧q∧r)(f:p→q→r→C):C:=f h.1 h.2.1 h.2.2
theorem a1w {p q r s:Prop}{C:Prop}(h:p∧q∧r∧s)(f:p→q→r→s→C):C:=f h.1 h.2.1 h.2.2.1 h.2.2.2
theorem a1t {p q r s t:Prop}{C:Prop}(h:p∧q∧r∧s∧t)(f:p→q→r→s→t→C):C:=f h.1 h.2.1 h.2.2.1 h.2.2.2.1 h.2.2.2.2
theorem P0 {p q r s t u:Prop}{C:Prop}(h:p∧q∧r∧s∧t∧u)(f:p→q→r→s→t→u→C):C:=f h.1 h.2.1 h.2.2.1 h.2.2.2.1 h.2.2.2.2.1 h.2.2.2.2.2
theorem a9T {A B D E F G H I J K L M:Type}{p q r s t u v w x y z p':A→B→D→E→F→G→H→I→J→K→L→M→Prop}{C:Prop}(h:∃ a b c d e g i j k l m n,p a b c d e g i j k l m n∧q a b c d e g i j k l m n∧r a b c d e g i j k l m n∧s a b c d e g i j k l m n∧t a b c d e g i j k l m n∧u a b c d e g i j k l m n∧v a b c d e g i j k l m n∧w a b c d e g i j k l m n∧x a b c d e g i j k l m n∧y a b c d e g i j k l m n∧z a b c d e g i j k l m n∧p' a b c d e g i j k l m n)(f:∀ a b c d e g i j k l m n,p a b c d e g i j k l m n→q a b c d e g i j k l m n→r a b c d e g i j k l m n→s a b c d e g i j k l m n→t a b c d e g i j k l m n→u a b c d e g i j k l m n→v a b c d e g i j k l m n→w a b c d e g i j k l m n→x a b c d e g i j k l m n→y a b c d e g i j k l m n→z a b c d e g i j k l m n→p' a b c d e g i j k l m n→C):C:=h.elim fun a h=>h.elim fun b h=>h.elim fun c h=>h.elim fun d h=>h.elim fun e h=>h.elim fun g h=>h.elim fun i h=>h.elim fun j h=>h.elim fun k h=>h.elim fun l h=>h.elim fun m h=>h.elim fun n h=>f a b c d e g i j k l m n h.1 h.2.1 h.2.2.1 h.2.2.2.1 h.2.2.2.2.1 h.2.2.2.2.2.1 h.2.2.2.2.2.2.1 h.2.2.2.2.2.2.2.1 h.2.2.2.2.2.2.2.2.1 h.2.2.2.2.2.2.2.2.2.1 h.2.2.2.2.2.2.2.2.2.2.1 h.2.2.2.2.2.2.2.2.2.2.2
theorem g8 {A:Type}{p:A→Prop}{C:Prop}(h:∃ a,p a)(f:∀ a,p a→C):C:=h.elim fun a h=>f a h
theorem c6 {A:Type}{p q:A→Prop}{C:Prop}(h:∃ a,p a∧q a)(f:∀ a,p a→q a→C):C:=h.elim fun a h=>f a h.1 h.2
theorem j7 {A:Type}{p q r:A→Prop}{C:Prop}(h:∃ a,p a∧q a∧r a)(f:∀ a,p a→q a→r a→C):C:=h.elim fun a h=>f a h.1 h.2.1 h.2.2
theorem a5J {A:Type}{p q r s:A→Prop}{C:Prop}(h:∃ a,p a∧q a∧r a∧s a)(f:∀ a,p a→q a→r a→s a→C):C:=h.elim fun a h=>f a h.1 h.2.1 h.2.2.1 h.2.2.2
theorem x6 {A:Type}{p q r s t:A→Prop}{C:Prop}(h:∃ a,p a∧q a∧r a∧s a∧t a)(f:∀ a,p a→q a→r a→s a→t a→C):C:=h.elim fun a h=>f a h.1 h.2.1 h.2.2.1 h.2.2.2.1 h.2.2.2.2
theorem a9h {A:Type}{p q r s t u:A→Prop}{C:Prop}(h:∃ a,p a∧q a∧r a∧s a∧t a∧u a)(f:∀ a,p a→q a→r a→s a→t a→u a→C):C:=h.elim fun a h=>f a h.1 h.2.1 h.2.2.1 h.2.2.2.1 h.2.2.2.2.1 h.2.2.2.2.2
theorem b5s {A:Type}{p q r s t u v:A→Prop}{C:Prop}(h:∃ a,p a∧q a∧r a∧s a∧t a∧u a∧v a)(f:∀ a,p a→q a→r a→s a→t a→u a→v a→C):C:=h.elim fun a h=>f a h.1 h.2.1 h.2.2.1 h.2.2.2.1 h.2.2.2.2.1 h.2.2.2.2.2.1 h.2.2.2.2.2.2
theorem A6 {A B:Type}{p:A→B→Prop}{C:Prop}(h:∃ a b,p a b)(f:∀ a b,p a b→C):C:=h.elim fun a h=>h.elim fun b h=>f a b h
theorem l6 {A B:Type}{p q:A→B→Prop}{C:Prop}(h:∃ a b,p a b∧q a b)(f:∀ a b,p a b→q a b→C):C:=h.elim fun a h=>h.elim fun b h=>f a b h.1 h.2
theorem i9 {A B:Type}{p q r:A→B→Prop}{C:Prop}(h:∃ a b,p a b∧q a b∧r a b)(f:∀ a b,p a b→q a b→r a b→C):C:=h.elim fun a h=>h.elim fun b h=>f a b h.1 h.2.1 h.2.2
theorem R8 {A B:Type}{p q r s:A→B→Prop}{C:Prop}(h:∃ a b,p a b∧q a b∧r a b∧s a b)(f:∀ a b,p a b→q a b→r a b→s a b→C):C:=h.elim fun a h=>h.elim fun b h=>f a b h.1 h.2.1 h.2.2.1 h.2.2.2
theorem a9w {A B:Type}{p q r s t:A→B→Prop}{C:Prop}(h:∃ a b,p a b∧q a b∧r a b∧s a b∧t a b)(f:∀ a b,p a b→q a b→r a b→s a b→t a b→C):C:=h.elim fun a h=>h.elim fun b h=>f a b h.1 h.2.1 h.2.2.1 h.2.2.2.1 h.2.2.2.2
theorem a9s {A B:Type}{p q r s t u:A→B→Prop}{C:Prop}(h:∃ a b,p a b∧q a b∧r a b∧s a b∧t a b∧u a b)(f:∀ a b,p a b→q a b→r a b→s a b→t a b→u a b→C):C:=h.elim fun a h=>h.elim fun b h=>f a b h.1 h.2.1 h.2.2.1 h.2.2.2.1 h.2.2.2.2.1 h.2.2.2.2.2
theorem a3h {A B D:Type}{p:A→B→D→Prop}{C:Prop}(h:∃ a b c,p a b c)(f:∀ a b c,p a b c→C):C:=h.elim fun a h=>h.elim fun b h=>h.elim fun c h=>f a b c h
theorem D0 {A B D:Type}{p q:A→B→D→Prop}{C:Prop}(h:∃ a b c,p a b c∧q a b c)(f:∀ a b c,p a b c→q a b c→C):C:=h.elim fun a h=>h.elim fun b h=>h.elim fun c h=>f a b c h.1 h.2
theorem E5 {A B D:Type}{p q r:A→B→D→Prop}{C:Prop}(h:∃ a b c,p a b c∧q a b c∧r a b c)(f:∀ a b c,p a b c→q a b c→r a b c→C):C:=h.elim fun a h=>h.elim fun b h=>h.elim fun c h=>f a b c h.1 h.2.1 h.2.2
theorem n6 {A B D:Type}{p q r s:A→B→D→Prop}{C:Prop}(h:∃ a b c,p a b c∧q a b c∧r a b c∧s a b c)(f:∀ a b c,p a b c→q a b c→r a b c→s a b c→C):C:=h.elim fun a h=>h.elim fun b h=>h.elim fun c h=>f a b c h.1 h.2.1 h.2.2.1 h.2.2.2
theorem Y9 {A B D:Type}{p q r s t:A→B→D→Prop}{C:Prop}(h:∃ a b c,p a b c∧q a b c∧r a b c∧s a b c∧t a b c)(f:∀ a b c,p a b c→q a b c→r a b c→s a b c→t a b c→C):C:=h.elim fun a h=>h.elim fun b h=>h.elim fun c h=>f a b c h.1 h.2.1 h.2.2.1 h.2.2.2.1 h.2.2.2.2
theorem b48 {A B D:Type}{p q r s t u:A→B→D→Prop}{C:Prop}(h:∃ a b c,p a b c∧q a b c∧r a b c∧s a b c∧t a b c∧u a b c)(f:∀ a b c,p a b c→q a b c→r a b c→s a b c→t a b c→u a b c→C):C:=h.elim fun a h=>h.elim fun b h=>h.elim fun c h=>f a b c h.1 h.2.1 h.2.2.1 h.2.2.2.1 h.2.2.2.2.1 h.2.2.2.2.2
theorem b1d {A B D:Type}{p q r s t u v:A→B→D→Prop}{C:Prop}(h:∃ a b c,p a b c∧q a b c∧r a b c∧s a b c∧t a b c∧u a b c∧v a b c)(f:∀ a b c,p a b c→q a b c→r a b c→s a b c→t a b c→u a b c→v a b c→C):C:=h.elim fun a h=>h.elim fun b h=>h.elim fun c h=>f a b c h.1 h.2.1 h.2.2.1 h.2.2.2.1 h.2.2.2.2.1 h.2.2.2.2.2.1 h.2.2.2.2.2.2
theorem b7u {A B D:Type}{p q r s t u v w x:A→B→D→Prop}{C:Prop}(h:∃ a b c,p a b c∧q a b c∧r a b c∧s a b c∧t a b c∧u a b c∧v a b c∧w a b c∧x a b c)(f:∀ a b c,p a b c→q a b c→r a b c→s a b c→t a b c→u a b c→v a b c→w a b c→x a b c→C):C:=h.elim fun a h=>h.elim fun b h=>h.elim fun c h=>f a b c h.1 h.2.1 h.2.2.1 h.2.2.2.1 h.2.2.2.2.1 h.2.2.2.2.2.1 h.2.2.2.2.2.2.1 h.2.2.2.2.2.2.2.1 h.2.2.2.2.2.2.2.2
theorem b1I {A B D E:Type}{p q:A→B→D→E→Prop}{C:Prop}(h:∃ a b c d,p a b c d∧q a b c d)(f:∀ a b c d,p a b c d→q a b c d→C):C:=h.elim fun a h=>h.elim fun b h=>h.elim fun c h=>h.elim fun d h=>f a b c d h.1 h.2
theorem a0W {A B D E:Type}{p q r:A→B→D→E→Prop}{C:Prop}(h:∃ a b c d,p a b c d∧q a b c d∧r a b c d)(f:∀ a b c d,p a b c d→q a b c d→r a b c d→C):C:=h.elim fun a h=>h.elim fun b h=>h.elim fun c h=>h.elim fun d h=>f a b c d h.1 h.2.1 h.2.2
theorem a3t {A B D E:Type}{p q r s:A→B→D→E→Prop}{C:Prop}(h:∃ a b c d,p a b c d∧q a b c d∧r a b c d∧s a b c d)(f:∀ a b c d,p a b c d→q a b c d→r a b c d→s a b c d→C):C:=h.elim fun a h=>h.elim fun b h=>h.elim fun c h=>h.elim fun d h=>f a b c d h.1 h.2.1 h.2.2.1 h.2.2.2
theorem a5Q {A B D E:Type}{p q r s t:A→B→D→E→Prop}{C:Prop}(h:∃ a b c d,p a b c d∧q a b c d∧r a b c d∧s a b c d∧t a b c d)(f:∀ a b c d,p a b c d→q a b c d→r a b c d→s a b c d→t a b c d→C):C:=h.elim fun a h=>h.elim fun b h=>h.elim fun c h=>h.elim fun d h=>f a b c d h.1 h.2.1 h.2.2.1 h.2.2.2.1 h.2.2.2.2
theorem b5v {A B D E:Type}{p q r s t u:A→B→D→E→Prop}{C:Prop}(h:∃ a b c d,p a b c d∧q a b c d∧r a b c d∧s a b c d∧t a b c d∧u a b c d)(f:∀ a b c d,p a b c d→q a b c d→r a b c d→s a b c d→t a b c d→u a b c d→C):C:=h.elim fun a h=>h.elim fun b h=>h.elim fun c h=>h.elim fun d h=>f a b c d h.1 h.2.1 h.2.2.1 h.2.2.2.1 h.2.2.2.2.1 h.2.2.2.2.2
theorem b7r {A B D E:Type}{p q r s t u v:A→B→D→E→Prop}{C:Prop}(h:∃ a b c d,p a b c d∧q a b c d∧r a b c d∧s a b c d∧t a b c d∧u a b c d∧v a b c d)(f:∀ a b c d,p a b c d→q a b c d→r a b c d→s a b c d→t a b c d→u a b c d→v a b c d→C):C:=h.elim fun a h=>h.elim fun b h=>h.elim fun c h=>h.elim fun d h=>f a b c d h.1 h.2.1 h.2.2.1 h.2.2.2.1 h.2.2.2.2.1 h.2.2.2.2.2.1 h.2.2.2.2.2.2
theorem b1u {A B D E:Type}{p q r s t u v w x:A→B→D→E→Prop}{C:Prop}(h:∃ a b c d,p a b c d∧q a b c d∧r a b c d∧s a b c d∧t a b c d∧u a b c d∧v a b c d∧w a b c d∧x a b c d)(f:∀ a b c d,p a b c d→q a b c d→r a b c d→s a b c d→t a b c d→u a b c d→v a b c d→w a b c d→x a b c d→C):C:=h.elim fun a h=>h.elim fun b h=>h.elim fun c h=>h.elim fun d h=>f a b c d h.1 h.2.1 h.2.2.1 h.2.2.2.1 h.2.2.2.2.1 h.2.2.2.2.2.1 h.2.2.2.2.2.2.1 h.2.2.2.2.2.2.2.1 h.2.2.2.2.2.2.2.2
theorem b12 {A B D E F:Type}{p q:A→B→D→E→F→Prop}{C:Prop}(h:∃ a b c d e,p a b c d e∧q a b c d e)(f:∀ a b c d e,p a b c d e→q a b c d e→C):C:=h.elim fun a h=>h.elim fun b h=>h.elim fun c h=>h.elim fun d h=>h.elim fun e h=>f a b c d e h.1 h.2
theorem b5p {A B D E F:Type}{p q r:A→B→D→E→F→Prop}{C:Prop}(h:∃ a b c d e,p a b c d e∧q a b c d e∧r a b c d e)(f:∀ a b c d e,p a b c d e→q a b c d e→r a b c d e→C):C:=h.elim fun a h=>h.elim fun b h=>h.elim fun c h=>h.elim fun d h=>h.elim fun e h=>f a b c d e h.1 h.2.1 h.2.2
theorem a5p {A B D E F:Type}{p q r s t u:A→B→D→E→F→Prop}{C:Prop}(h:∃ a b c d e,p a b c d e∧q a b c d e∧r a b c d e∧s a b c d e∧t a b c d e∧u a b c d e)(f:∀ a b c d e,p a b c d e→q a b c d e→r a b c d e→s a b c d e→t a b c d e→u a b c d e→C):C:=h.elim fun a h=>h.elim fun b h=>h.elim fun c h=>h.elim fun d h=>h.elim fun e h=>f a b c d e h.1 h.2.1 h.2.2.1 h.2.2.2.1 h.2.2.2.2.1 h.2.2.2.2.2
theorem a0F {A B D E F:Type}{p q r s t u v w:A→B→D→E→F→Prop}{C:Prop}(h:∃ a b c d e,p a b c d e∧q a b c d e∧r a b c d e∧s a b c d e∧t a b c d e∧u a b c d e∧v a b c d e∧w a b c d e)(f:∀ a b c d e,p a b c d e→q a b c d e→r a b c d e→s a b c d e→t a b c d e→u a b c d e→v a b c d e→w a b c d e→C):C:=h.elim fun a h=>h.elim fun b h=>h.elim fun c h=>h.elim fun d h=>h.elim fun e h=>f a b c d e h.1 h.2.1 h.2.2.1 h.2.2.2.1 h.2.2.2.2.1 h.2.2.2.2.2.1 h.2.2.2.2.2.2.1 h.2.2.2.2.2.2.2
theorem b5j {A B D E F G:Type}{p q r:A→B→D→E→F→G→Prop}{C:Prop}(h:∃ a b c d e g,p a b c d e g∧q a b c d e g∧r a b c d e g)(f:∀ a b c d e g,p a b c d e g→q a b c d e g→r a b c d e g→C):C:=h.elim fun a h=>h.elim fun b h=>h.elim fun c h=>h.elim fun d h=>h.elim fun e h=>h.elim fun g h=>f a b c d e g h.1 h.2.1 h.2.2
theorem a9n {A B D E F G:Type}{p q r s:A→B→D→E→F→G→Prop}{C:Prop}(h:∃ a b c d e g,p a b c d e g∧q a b c d e g∧r a b c d e g∧s a b c d e g)(f:∀ a b c d e g,p a b c d e g→q a b c d e g→r a b c d e g→s a b c d e g→C):C:=h.elim fun a h=>h.elim fun b h=>h.elim fun c h=>h.elim fun d h=>h.elim fun e h=>h.elim fun g h=>f a b c d e g h.1 h.2.1 h.2.2.1 h.2.2.2
theorem b5l {A B D E F G:Type}{p q r s t u v w:A→B→D→E→F→G→Prop}{C:Prop}(h:∃ a b c d e g,p a b c d e g∧q a b c d e g∧r a b c d e g∧s a b c d e g∧t a b c d e g∧u a b c d e g∧v a b c d e g∧w a b c d e g)(f:∀ a b c d e g,p a b c d e g→q a b c d e g→r a b c d e g→s a b c d e g→t a b c d e g→u a b c d e g→v a b c d e g→w a b c d e g→C):C:=h.elim fun a h=>h.elim fun b h=>h.elim fun c h=>h.elim fun d h=>h.elim fun e h=>h.elim fun g h=>f a b c d e g h.1 h.2.1 h.2.2.1 h.2.2.2.1 h.2.2.2.2.1 h.2.2.2.2.2.1 h.2.2.2.2.2.2.1 h.2.2.2.2.2.2.2
theorem b7X {A B D E F G H:Type}{p q r s t u v w:A→B→D→E→F→G→H→Prop}{C:Prop}(h:∃ a b c d e g i,p a b c d e g i∧q a b c d e g i∧r a b c d e g i∧s a b c d e g i∧t a b c d e g i∧u a b c d e g i∧v a b c d e g i∧w a b c d e g i)(f:∀ a b c d e g i,p a b c d e g i→q a b c d e g i→r a b c d e g i→s a b c d e g i→t a b c d e g i→u a b c d e g i→v a b c d e g i→w a b c d e g i→C):C:=h.elim fun a h=>h.elim fun b h=>h.elim fun c h=>h.elim fun d h=>h.elim fun e h=>h.elim fun g h=>h.elim fun i h=>f a b c d e g i h.1 h.2.1 h.2.2.1 h.2.2.2.1 h.2.2.2.2.1 h.2.2.2.2.2.1 h.2.2.2.2.2.2.1 h.2.2.2.2.2.2.2
theorem b5b {A B D E F G H:Type}{p q r s t u v w x:A→B→D→E→F→G→H→Prop}{C:Prop}(h:∃ a b c d e g i,p a b c d e g i∧q a b c d e g i∧r a b c d e g i∧s a b c d e g i∧t a b c d e g i∧u a b c d e g i∧v a b c d e g i∧w a b c d e g i∧x a b c d e g i)(f:∀ a b c d e g i,p a b c d e g i→q a b c d e g i→r a b c d e g i→s a b c d e g i→t a b c d e g i→u a b c d e g i→v a b c d e g i→w a b c d e g i→x a b c d e g i→C):C:=h.elim fun a h=>h.elim fun b h=>h.elim fun c h=>h.elim fun d h=>h.elim fun e h=>h.elim fun g h=>h.elim fun i h=>f a b c d e g i h.1 h.2.1 h.2.2.1 h.2.2.2.1 h.2.2.2.2.1 h.2.2.2.2.2.1 h.2.2.2.2.2.2.1 h.2.2.2.2.2.2.2.1 h.2.2.2.2.2.2.2.2
theorem b8x {A B D E F G H I J:Type}{p q r:A→B→D→E→F→G→H→I→J→Prop}{C:Prop}(h:∃ a b c d e g i j k,p a b c d e g i j k∧q a b c d e g i j k∧r a b c d e g i j k)(f:∀ a b c d e g i j k,p a b c d e g i j k→q a b c d e g i j k→r a b c d e g i j k→C):C:=h.elim fun a h=>h.elim fun b h=>h.elim fun c h=>h.elim fun d h=>h.elim fun e h=>h.elim fun g h=>h.elim fun i h=>h.elim fun j h=>h.elim fun k h=>f a b c d e g i j k h.1 h.2.1 h.2.2
theorem au0 (_h:True:=by first | exact .inl rfl | exact .inr rfl | exact .inr (.inl rfl) | exact .inr (.inr rfl) | assumption):True:=trivial
theorem Y0 (_h:True:=by decide):True:=trivial
theorem au2 (_h:True:=by first | exact b1R _ (by decide) (by decide) | rfl):True:=trivial
theorem m6 (_h:True:=by rfl):True:=trivial
theorem au4 (_h:True:=by intro _; rfl):True:=trivial
theorem au5 (_h:True:=by with_unfolding_all rfl):True:=trivial
theorem au6 (_h:True:=by exact fun _=>rfl):True:=trivial
theorem au7 (_h:True:=by exact fun _ _=>rfl):True:=trivial
theorem au8 (_h:True:=by decide +kernel):True:=trivial
theorem au9 (_h:True:=by exact ⟨rfl,rfl,rfl,rfl⟩):True:=trivial
theorem b9v (_h:True:=by exact b06):True:=trivial
namespace L2
open PySem PySem.Spec PyProof.Rows
noncomputable abbrev Key:=Sum Int Str
noncomputable def a22:Key→Value→Bool
 | .inl k,v=>Value.isInt k v
 | .inr x,v=>Value.isStrOf x v
noncomputable def b83 (w:World):Key→Int
 | .inl k=>hashInt k
 | .inr x=>hashStr w x
theorem A3:∀ {k:Key} {v:Value},a22 k v=true→(∃ i t,k=Sum.inl i∧v=Value.int i t)∨(∃ x t,k=Sum.inr x∧v=Value.str x t)
 | .inl i,v,h=>by
  refine g8 (Value.isInt_shape (k:=i) (v:=v) h) fun t e=>?_
  exact .inl ⟨i,t,rfl,e⟩
 | .inr x,v,h=>by
  refine g8 (Value.isStrOf_shape (x:=x) (v:=v) h) fun t e=>?_
  exact .inr ⟨x,t,rfl,e⟩
theorem b0i (i:Int)(t:Tok):a22 (.inl i) (.int i t)=true:=by simp [a22,Value.isInt]
theorem a9Z (x:Str)(t:Tok):a22 (.inr x) (.str x t)=true:=by simp [a22,Value.isStrOf]
theorem b6K (a b:Int):decide ((Sum.inl a:Key)=Sum.inl b)=(a == b):=by
 by_cases e:a=b
 ·subst e; simp
 ·have h:¬ (Sum.inl a:Key)=Sum.inl b:=fun q=>e (Sum.inl.inj q)
  rw [decide_eq_false h]
  exact (beq_eq_false_iff_ne.mpr e).symm
theorem b6c (a b:Str):decide ((Sum.inr a:Key)=Sum.inr b)=decide (a=b):=by
 by_cases e:a=b
 ·subst e; simp
 ·have h:¬ (Sum.inr a:Key)=Sum.inr b:=fun q=>e (Sum.inr.inj q)
  rw [decide_eq_false h,decide_eq_false e]
theorem b6k (a:Int)(b:Str):decide ((Sum.inl a:Key)=Sum.inr b)=false:=decide_eq_false (fun q=>nomatch q)
theorem b63 (a:Str)(b:Int):decide ((Sum.inr a:Key)=Sum.inl b)=false:=decide_eq_false (fun q=>nomatch q)
noncomputable def x8 (prog:Program)(w:World):PySem.KeyKind prog w Key where
 is:=a22
 hash:=b83 w
 inj:=fun v a b ha hb=>by
  rcases A3 ha with ⟨i,t,rfl,rfl⟩ | ⟨x,t,rfl,rfl⟩
  ·rcases A3 hb with ⟨j,u,rfl,e⟩ | ⟨y,u,rfl,e⟩
   ·injection e with e1 _; rw [e1]
   ·exact nomatch e
  ·rcases A3 hb with ⟨j,u,rfl,e⟩ | ⟨y,u,rfl,e⟩
   ·exact nomatch e
   ·injection e with e1 _; rw [e1]
 byValue:=fun k v h=>by
  rcases A3 h with ⟨i,t,rfl,rfl⟩ | ⟨x,t,rfl,rfl⟩ <;> rfl
 pyHash:=fun hv h=>by
  rcases A3 hv with ⟨i,t,rfl,rfl⟩ | ⟨x,t,rfl,rfl⟩
  ·exact wpAny_pyHash_int h
  ·exact wpAny_pyHash_str h
 eqBool:=fun hu hv h=>by
  rcases A3 hu with ⟨i,t,rfl,rfl⟩ | ⟨x,t,rfl,rfl⟩
  ·rcases A3 hv with ⟨j,u,rfl,rfl⟩ | ⟨y,u,rfl,rfl⟩
   ·rw [b6K] at h; exact wpAny_eqBool_int h
   ·rw [b6k] at h; exact SeqAt.EqAt.int_str i t y u _ _ _ _ h
  ·rcases A3 hv with ⟨j,u,rfl,rfl⟩ | ⟨y,u,rfl,rfl⟩
   ·rw [b63] at h; exact SeqAt.EqAt.str_int x t j u _ _ _ _ h
   ·rw [b6c] at h; exact wpAny_eqBool_str h
 «strs»:=fun k x t v h=>by
  rcases A3 h with ⟨i,u,rfl,e⟩ | ⟨y,u,rfl,e⟩
  ·exact nomatch e
  ·injection e with e1 _
   subst e1
   cases v <;> rfl
theorem a7u (prog:Program)(w:World)(i:Int)(t:Tok):(x8 prog w).is (.inl i) (.int i t)=true:=b0i i t
theorem a7e (prog:Program)(w:World)(x:Str)(t:Tok):(x8 prog w).is (.inr x) (.str x t)=true:=a9Z x t
end L2
namespace L2
open PySem PySem.Spec PyProof.Rows
inductive V where
 | w6 | bl (b:Bool) | int (i:Int) | str (x:Str) | byt (b:Array UInt8) | flt (b:UInt64) | ref (a:Addr) | ty (n:String)
 deriving DecidableEq
noncomputable def RelV:V→Value→Prop
 | .w6,u=>u=Value.none
 | .bl b,u=>u=Value.bool b
 | .int i,u=>∃ t,u=Value.int i t
 | .str x,u=>∃ t,u=Value.str x t
 | .byt b,u=>∃ t,u=Value.bytes b t
 | .flt b,u=>∃ t,u=Value.float b t
 | .ref a,u=>u=Value.ref a
 | .ty n,u=>u=Value.type n
noncomputable abbrev Vals:List V→List Value→Prop:=Paired RelV
theorem Vals.length {xs:List V}{us:List Value}(r:Vals xs us):xs.length=us.length:=Paired.length r
theorem Vals.get:∀ {xs:List V} {us:List Value} {i:Nat} {x:V},Vals xs us→xs[i]?=some x→∃ u,us[i]?=some u∧RelV x u
 | _,_,_,_,.nil,e=>by simp at e
 | _,_,0,_,.cons r _,e=>by simp at e; subst e; exact ⟨_,rfl,r⟩
 | _,_,i + 1,x,.cons _ t,e=>by
  refine c6 (Vals.get (i:=i) (x:=x) t (by simpa using e)) fun u h1 h2=>?_
  exact ⟨u,by simpa using h1,h2⟩
theorem Vals.set {x:V}{u:Value}(r:RelV x u):∀ {xs:List V} {us:List Value} (i:Nat),Vals xs us→Vals (xs.set i x) (us.set i u)
 | _,_,_,.nil=>.nil
 | _,_,0,.cons _ t=>.cons r t
 | _,_,i + 1,.cons q t=>.cons q (Vals.set r i t)
theorem Vals.append:∀ {xs ys:List V} {us ws:List Value},Vals xs us→Vals ys ws→Vals (xs++ys) (us++ws)
 | _,_,_,_,.nil,s=>s
 | _,_,_,_,.cons r t,s=>.cons r (Vals.append t s)
theorem Vals.take:∀ {xs:List V} {us:List Value} (n:Nat),Vals xs us→Vals (xs.take n) (us.take n)
 | _,_,0,_=>.nil
 | _,_,_ + 1,.nil=>.nil
 | _,_,n + 1,.cons r t=>.cons r (Vals.take n t)
theorem Vals.drop:∀ {xs:List V} {us:List Value} (n:Nat),Vals xs us→Vals (xs.drop n) (us.drop n)
 | _,_,0,r=>r
 | _,_,_ + 1,.nil=>.nil
 | _,_,n + 1,.cons _ t=>Vals.drop n t
noncomputable def a0M:Option V→Option Value→Prop
 | some v,some u=>RelV v u
 | none,none=>True
 | _,_=>False
noncomputable def KV {κ:Type}:List (κ×V)→List (κ×Value)→Prop:=Paired fun (p:κ×V) (q:κ×Value)=>p.1=q.1∧RelV p.2 q.2
noncomputable def kV:Key→V
 | .inl i=>.int i
 | .inr x=>.str x
inductive HO where
 
 | lst (xs:List V)
 
 | tup (xs:List V)
 
 | dK (kvs:List (Key×V)) | dT (kvs:List (List Key×V))
 
 | set (S:Int→Bool) (n:Nat)
 
 | ins (C dx:Addr) (fs:List (Str×V))
 
 | own (x:Addr)
 
 | xd (fs:List (Str×V))
 
 | met (f x:Addr)
 
 | rng (lo hi:Int)
 
 | frz (o:Obj) (u:HO)
 
 | tbl (ps:Array Value)
 
 | ext (φ:Heap→Prop)
noncomputable abbrev Hp:=Addr→Option HO
noncomputable def upd (H:Hp)(a:Addr)(o:HO):Hp:=fun b=>if b=a then some o else H b
theorem l9 {H:Hp}{a:Addr}{o:HO}:upd H a o a=some o:=by unfold upd; rw [if_pos rfl]
theorem j3 {H:Hp}{a b:Addr}{o:HO}(h:b≠a):upd H a o b=H b:=by unfold upd; rw [if_neg h]
theorem b7m {H:Hp}{a b:Addr}{o u:HO}(h:H a=some o)(h':H b=some u)(d:o≠u):a≠b:=by
 intro e; subst e; rw [h] at h'; exact d (Option.some.inj h')
theorem t9 {H:Hp}{a b:Addr}{o:HO}(h:H a=some o)(h':H b=none):a≠b:=by
 intro e; subst e; rw [h] at h'; cases h'
section
variable (P:Program)(w:World)
noncomputable def D8 (H:Hp)(h:Heap)(a:Addr):HO→Prop
 | .lst xs=>xs.length≤sizeLine∧∃ (its:List Value) (n:Nat),Vals xs its∧h.get? a=some { cls:=.type "list",data:=.seq its.toArray n }
 | .tup xs=>xs.length≤sizeLine∧∃ its:List Value,Vals xs its∧IsTup h a its.toArray
 | .dK kvs=>kvs.length≤sizeLine∧(a == sysModules)=false∧∃ vs,KV kvs vs∧h.DictOf (x8 P w) a vs
 | .dT kvs=>kvs.length≤sizeLine∧(a == sysModules)=false∧∃ xs:List (List Key×Addr×Value),
   Paired (fun (p:List Key×V) (q:List Key×Addr×Value)=>p.1=q.1∧H q.2.1=some (.tup (p.1.map kV))∧RelV p.2 q.2.2) kvs xs∧
   ∃ o es ep,h.get? a=some o∧o.ExactDict∧o.data=.dict es ep∧es.toList=xs.map (entryOfKey (tupleKind (x8 P w)))∧(xs.map (·.1)).Nodup
 | .set S n=>h.SetOf (intKind P w) a S n
 | .ins C dx fs=>H dx=some (.own a)∧fs.length≤1000∧dx≠a∧h.get? a=some (PySem.W.instObj C dx)∧
   ∃ mA,h.Ns1 dx mA∧(∀ f,a0M (fs.lookup f) (mA f))∧PySem.Within mA (fs.map (·.1))
 | .own _=>∃ o,h.get? a=some o
 | .xd fs=>∃ mA,h.Ns1 a mA∧∀ f,a0M (fs.lookup f) (mA f)
 | .rng lo hi=>∃ t u v,h.get? a=some { cls:=.type "range",data:=.fields #[.int lo t,.int hi u,.int 1 v] }
 | .frz o u=>h.get? a=some o∧D8 H h a u
 | .tbl ps=>h.get? a=some { cls:=.none,data:=.fields ps }
 | .met f x=>h.get? a=some (PySem.W.methodObj (.ref f) (.ref x))
 | .ext φ=>φ h∧(∃ o,h.get? a=some o)∧∀ h1 h2:Heap,φ h1→(∀ o,h1.get? a=some o→h2.get? a=some o)→φ h2
noncomputable def HOk (H:Hp)(h:Heap):Prop:=∀ a o,H a=some o→D8 P w H h a o
end
section
variable {P:Program}{w:World}{H H':Hp}{h h':Heap}{a:Addr}{o:HO}
theorem D8.lt (x:D8 P w H h a o):a < h.objs.size:=by
 cases o with
 | lst xs=>refine f9 (x) fun _ Z9=>l6 Z9 fun _ _ _ e=>?_; exact Heap.lt_size e
 | tup xs=>refine f9 (x) fun _ Z9=>c6 Z9 fun _ _ p=>?_; exact p.lt
 | dK kvs=>obtain ⟨_,_,_,_,o,_,_,e,_⟩:=x; exact Heap.lt_size e
 | dT kvs=>obtain ⟨_,_,_,_,o,_,_,e,_⟩:=x; exact Heap.lt_size e
 | set S n=>refine b1I (x) fun o _ _ _ e _=>?_; exact Heap.lt_size e
 | ins C dx fs=>refine a1t (x) fun _ _ _ e _=>?_; exact Heap.lt_size e
 | own y=>refine g8 (x) fun _ e=>?_; exact Heap.lt_size e
 | xd fs=>refine c6 (x) fun _ Z1 _=>?_; refine D0 (Z1) fun _ _ _ e _=>?_; exact Heap.lt_size e
 | rng lo hi=>refine a3h (x) fun _ _ _ e=>?_; exact Heap.lt_size e
 | frz ob u=>refine f9 (x) fun e _=>?_; exact Heap.lt_size e
 | tbl ps=>exact Heap.lt_size (show h.get? a=some _ from x)
 | met f y=>exact Heap.lt_size (show h.get? a=some _ from x)
 | ext φ=>refine n8 (x) fun _ Z1 _=>?_; refine g8 (Z1) fun _ e=>?_; exact Heap.lt_size e
theorem Paired.b1W {α β:Type}{F G:α→β→Prop}:∀ {l₁:List α} {l₂:List β},Paired F l₁ l₂→(∀ a b,F a b→G a b)→Paired G l₁ l₂
 | _,_,.nil,_=>.nil
 | _,_,.cons r t,f=>.cons (f _ _ r) (Paired.b1W t f)
theorem Paired.imp' {α β:Type}{F G:α→β→Prop}(f:∀ a b,F a b→G a b){l₁:List α}{l₂:List β}(r:Paired F l₁ l₂):Paired G l₁ l₂:=Paired.b1W r f
theorem D8.stay (x:D8 P w H h a o)(k:∀ b u,(b=a∨H b=some (.own a))→h.get? b=some u→h'.get? b=some u)
  (ho:∀ b,H b=some (.own a)→H' b=some (.own a)) (ht:∀ b xs,H b=some (.tup xs)→H' b=some (.tup xs)):D8 P w H' h' a o:=by
 induction o with
 | lst xs=>refine f9 (x) fun z Z9=>l6 Z9 fun its n r e=>?_; exact ⟨z,its,n,r,k _ _ (.inl rfl) e⟩
 | tup xs=>obtain ⟨z,its,r,ob,e,c⟩:=x; exact ⟨z,its,r,ob,k _ _ (.inl rfl) e,c⟩
 | dK kvs=>obtain ⟨z,y,vs,r,ob,es,ep,e,c⟩:=x; exact ⟨z,y,vs,r,ob,es,ep,k _ _ (.inl rfl) e,c⟩
 | dT kvs=>
  obtain ⟨z,y,xs,r,ob,es,ep,e,c⟩:=x
  exact ⟨z,y,xs,Paired.b1W r fun p q z=>⟨z.1,ht _ _ z.2.1,z.2.2⟩,ob,es,ep,k _ _ (.inl rfl) e,c⟩
 | set S n=>refine b1I (x) fun ob es ep t e c=>?_; exact ⟨ob,es,ep,t,k _ _ (.inl rfl) e,c⟩
 | ins C dx fs=>
  refine a1t (x) fun d z ne e Z9=>c6 Z9 fun mA Z1 r=>?_; refine D0 (Z1) fun od es ep e2 c=>?_
  exact ⟨ho _ d,z,ne,k _ _ (.inl rfl) e,mA,⟨od,es,ep,k _ _ (.inr d) e2,c⟩,r⟩
 | own y=>refine g8 (x) fun ob e=>?_; exact ⟨ob,k _ _ (.inl rfl) e⟩
 | xd fs=>refine c6 (x) fun mA Z1 r=>?_; refine D0 (Z1) fun od es ep e c=>?_; exact ⟨mA,⟨od,es,ep,k _ _ (.inl rfl) e,c⟩,r⟩
 | rng lo hi=>refine a3h (x) fun t u v e=>?_; exact ⟨t,u,v,k _ _ (.inl rfl) e⟩
 | frz ob u ih=>refine f9 (x) fun e q=>?_; exact ⟨k _ _ (.inl rfl) e,ih q⟩
 | tbl ps=>
  have e:h.get? a=some { cls:=.none,data:=.fields ps }:=x
  show h'.get? a=some { cls:=.none,data:=.fields ps }
  exact k a _ (.inl rfl) e
 | met f y=>
  have e:h.get? a=some (PySem.W.methodObj (.ref f) (.ref y)):=x
  show h'.get? a=some (PySem.W.methodObj (.ref f) (.ref y))
  exact k a _ (.inl rfl) e
 | ext φ=>refine n8 (x) fun p Z1 st=>?_; refine g8 (Z1) fun o e=>?_; exact ⟨st _ _ p fun o q=>k _ _ (.inl rfl) q,⟨o,k _ _ (.inl rfl) e⟩,st⟩
theorem HOk.lt (x:HOk P w H h)(e:H a=some o):a < h.objs.size:=(x a o e).lt
theorem HOk.fresh (x:HOk P w H h)(e:h.objs.size≤a):H a=none:=by
 cases q:H a with
 | none=>rfl
 | some u=>exact absurd (Nat.lt_of_lt_of_le (x.lt q) e) (Nat.lt_irrefl _)
theorem HOk.kept (x:HOk P w H h)(k:∀ b u,h.get? b=some u→h'.get? b=some u):HOk P w H h':=fun a o e=>
 (x a o e).stay (fun b u _ q=>k b u q) (fun _ q=>q) fun _ _ q=>q
theorem HOk.laid (x:HOk P w H h)(k:∀ b u,h.get? b=some u→h'.get? b=some u)(hp:h.objs.size≤a)(new:D8 P w (upd H a o) h' a o):HOk P w (upd H a o) h':=fun b u e=>by
 have hn:=x.fresh hp
 by_cases hb:b=a
 ·subst hb; rw [l9] at e; cases e; exact new
 ·rw [j3 hb] at e
  exact (x b u e).stay (fun c v _ q=>k c v q) (fun c q=>by rw [j3 (t9 q hn)]; exact q) fun c xs q=>by rw [j3 (t9 q hn)]; exact q
end
noncomputable def Rd (H:Hp)(a:Addr)(u:HO):Prop:=H a=some u∨∃ o,H a=some (.frz o u)
theorem Rd.ok {P:Program}{w:World}{H:Hp}{h:Heap}{a:Addr}{u:HO}(r:Rd H a u)(x:HOk P w H h):D8 P w H h a u:=by
 refine Or.elim (r) (fun r=>?_) fun Z1=>g8 (Z1) fun o r=>?_
 ·exact x a u r
 ·refine f9 (x a _ r) fun _ q=>?_
  exact q
noncomputable def Mut:Option HO→Prop
 | some (.lst _)=>True
 | some (.dK _)=>True
 | some (.dT _)=>True
 | some (.set _ _)=>True
 | some (.ins _ _ _)=>True
 | some (.ext _)=>True
 | _=>False
section
variable {P:Program}{w:World}{H:Hp}{h h':Heap}{x e:Addr}{o':HO}
theorem HOk.write (ok:HOk P w H h)(mu:Mut (H x))(he:e=x∨H e=some (.own x))(k:∀ b u,b≠e→h.get? b=some u→h'.get? b=some u)(heo:∃ u,h'.get? e=some u)
  (new:D8 P w (upd H x o') h' x o'):HOk P w (upd H x o') h':=fun b u q=>by
 have nown:∀ c y,H c=some (.own y)→c≠x:=fun c y r z=>by subst z; rw [r] at mu; exact mu
 have ntup:∀ c xs,H c=some (.tup xs)→c≠x:=fun c xs r z=>by subst z; rw [r] at mu; exact mu
 by_cases hb:b=x
 ·subst hb; rw [l9] at q; cases q; exact new
 ·rw [j3 hb] at q
  by_cases hbe:b=e
  ·have q':H b=some (.own x):=by
    refine Or.elim (he) (fun z=>?_) fun z=>?_
    ·exact absurd (hbe.trans z) hb
    ·rw [hbe]; exact z
   rw [q] at q'; cases q'
   refine g8 (heo) fun v hv=>?_
   exact ⟨v,by rw [hbe]; exact hv⟩
  ·refine (ok b u q).stay (fun c v hc r=>k c v ?_ r) (fun c r=>by rw [j3 (nown c b r)]; exact r) fun c xs r=>by rw [j3 (ntup c xs r)]; exact r
   rcases hc with rfl | hc
   ·exact hbe
   ·rintro rfl
    refine Or.elim (he) (fun z=>?_) fun z=>?_
    ·exact nown c b hc z
    ·rw [hc] at z; cases z; exact hb rfl
end
structure Un (fs ex:List Addr) (H H':Hp) (h h':Heap):Prop where
 keep:∀ b o,h.get? b=some o→H b=none→b∉fs→b∉ex→h'.get? b=some o
 slot:∀ b o,h.get? b=some o→H b=none→b∈fs→b∉ex→∃ sl,h'.get? b=some { o with slots:=sl }
 free:∀ b o,h.get? b=some o→H b=none→b∉ex→H' b=none
 there:∀ b o,h.get? b=some o→b∉ex→∃ o',h'.get? b=some o'
 tups:∀ b xs,H b=some (.tup xs)→H' b=some (.tup xs)
 frzs:∀ b o u,H b=some (.frz o u)→H' b=some (.frz o u)
 tbls:∀ b ps,H b=some (.tbl ps)→∃ more,H' b=some (.tbl (ps++more))
section
variable {fs fs' ex ex':List Addr}{H H1 H2:Hp}{h h1 h2 h':Heap}{a x e:Addr}{o:HO}
theorem Un.any (u:Un fs ex H H1 h h1){b:Addr}{ob:Obj}(q:h.get? b=some ob)(n:H b=none)(hx:b∉ex):∃ sl,h1.get? b=some { ob with slots:=sl }:=by
 by_cases hb:b∈fs
 ·exact u.slot b ob q n hb hx
 ·exact ⟨ob.slots,u.keep b ob q n hb hx⟩
theorem Un.kept (k:∀ b u,h.get? b=some u→h'.get? b=some u):Un fs ex H H h h':=
 ⟨fun b ob q _ _ _=>k b ob q,fun b ob q _ _ _=>⟨ob.slots,k b ob q⟩,fun _ _ _ n _=>n,fun b ob q _=>⟨ob,k b ob q⟩,fun _ _ q=>q,fun _ _ _ q=>q,fun _ ps q=>⟨#[],by rw [q]; simp⟩⟩
theorem Un.refl:Un fs ex H H h h:=Un.kept fun _ _ q=>q
theorem Un.laid (k:∀ b u,h.get? b=some u→h'.get? b=some u)(hp:h.objs.size≤a)(hn:H a=none):Un fs ex H (upd H a o) h h' where
 keep:=fun b u q _ _ _=>k b u q
 slot:=fun b u q _ _ _=>⟨u.slots,k b u q⟩
 free:=fun b u q n _=>by rw [j3 (Nat.ne_of_lt (Nat.lt_of_lt_of_le (Heap.lt_size q) hp))]; exact n
 there:=fun b u q _=>⟨u,k b u q⟩
 tups:=fun b xs q=>by rw [j3 (t9 q hn)]; exact q
 frzs:=fun b u xs q=>by rw [j3 (t9 q hn)]; exact q
 tbls:=fun b ps q=>⟨#[],by rw [j3 (t9 q hn),q]; simp⟩
theorem Un.write (mu:Mut (H x))(he:e=x∨H e=some (.own x))(k:∀ b u,b≠e→h.get? b=some u→h'.get? b=some u)(heo:∃ u,h'.get? e=some u):Un fs ex H (upd H x o) h h':=by
 have hx:∀ b,H b=none→b≠x:=fun b n z=>by subst z; rw [n] at mu; exact mu
 have hb:∀ b,H b=none→b≠e:=fun b n z=>by
  subst z
  refine Or.elim (he) (fun r=>?_) fun r=>?_
  ·exact hx b n r
  ·rw [n] at r; cases r
 have hm:∀ b u,H b=some u→¬ Mut (some u)→b≠x:=fun b u q nm z=>by subst z; rw [q] at mu; exact nm mu
 refine ⟨fun b u q n _ _=>k b u (hb b n) q,fun b u q n _ _=>⟨u.slots,k b u (hb b n) q⟩,fun b u q n _=>by rw [j3 (hx b n)]; exact n,fun b u q _=>?_,
  fun b xs q=>by rw [j3 (hm b _ q fun z=>z)]; exact q,fun b u xs q=>by rw [j3 (hm b _ q fun z=>z)]; exact q,fun b ps q=>⟨#[],by rw [j3 (hm b _ q fun z=>z),q]; simp⟩⟩
 by_cases hbe:b=e
 ·subst hbe; exact heo
 ·exact ⟨u,k b u hbe q⟩
end
noncomputable def trk (h:Heap)(H:Hp):List Addr:=(List.range h.objs.size).filter fun a=>(H a).isSome
noncomputable def a6S (h:Heap)(H:Hp):Heap:=PySem.W.hideAll h (trk h H)
theorem b0D (h:Heap)(H:Hp):(a6S h H).objs.size=h.objs.size:=PySem.W.hideAll_size _ _
theorem b2s {h:Heap}{H:Hp}{b:Addr}{o:Obj}(e:h.get? b=some o)(n:H b=none):(a6S h H).get? b=some o:=
 PySem.W.hideAll_get _ e fun hm=>by
  have q:(H b).isSome=true:=(List.mem_filter.mp hm).2
  rw [n] at q; simp at q
theorem b3Y {h:Heap}{H:Hp}{b:Addr}{o:Obj}(e:(a6S h H).get? b=some o):h.get? b=some o∧H b=none:=by
 have e':h.get? b=some o:=PySem.W.of_hideAll (trk h H) e
 refine ⟨e',?_⟩
 cases q:H b with
 | none=>rfl
 | some x=>
  have hm:b∈trk h H:=List.mem_filter.mpr ⟨List.mem_range.mpr (Heap.lt_size e'),by simp [q]⟩
  have z:(a6S h H).get? b=none:=PySem.W.hideAll_none (trk h H) hm
  rw [z] at e; cases e
end L2
namespace L2
open PySem PySem.Spec PyProof.Rows
structure Mod (K:PySem.W.Frag) (mg:Str→Option Value) (base:Heap):Prop where
 kin:K.In base
 glob:base.Ns mainGlobals mg
 blt:∃ mb,base.Ns builtinsNs mb∧∀ x:Str,x≠"__name__"→mb x=bootBuiltins x
 nolimit:base.NoLimit
structure Cx where
 prog:Program
 w:World
 K:PySem.W.Frag
 mg:Str→Option Value
 base:Heap
 A:Around
 N:List Str
 s₀:Shared
 H₀:Hp
 env:Env
 outer:List Env
 stack:List Env
 ex:List Addr
 fn:Str→Bool
 calm:Bool
 pn:List (Addr×Obj)
 xe:Value→Shared→Prop
noncomputable def frs (l:List Env):List Addr:=l.filterMap (·.frame)
noncomputable abbrev Cx.fs (X:Cx):List Addr:=frs X.outer
noncomputable def Vis (sc:Scope)(x:Str):Prop:=sc.names.lookup x=some .local∨sc.names.lookup x=some .cell∨sc.names.lookup x=some .free
noncomputable def Loc (sc:Scope)(x:Str):Prop:=sc.names.lookup x=some .local∨sc.names.lookup x=some .cell
noncomputable def Look (env:Env)(h:Heap)(m:Str→Option Value)(x:Str)(u:Value):Prop:=
 (env.kindOf x=some .local∧m x=some u)∨((env.kindOf x=some .cell∨env.kindOf x=some .free)∧∃ c,env.cells.lookup x=some c∧h.IsCell c (some u))
structure Cx.Ok (X:Cx):Prop where
 mod:Mod X.K X.mg X.base
 kind:X.env.scope.kind=.function
 glob:X.env.globals=mainGlobals
 blt:X.env.builtins=builtinsNs
 above:X.s₀.heap.objs.size≤X.env.locals
 inj:∀ x y c,X.env.cells.lookup x=some c→X.env.cells.lookup y=some c→x=y
 has:∀ x,(X.env.kindOf x=some .cell∨X.env.kindOf x=some .free)→∃ c,X.env.cells.lookup x=some c
 cab:∀ x c,X.fn x=true→X.env.cells.lookup x=some c→X.s₀.heap.objs.size≤c
 hd:X.calm=true→X.A.handled=none
 frames:X.A.frames=some X.stack
 stk:X.stack=X.outer∨(X.stack=X.env::X.outer∧X.env.frame=some X.env.locals)
 exf:∀ b∈X.ex,b≠X.env.locals∧∀ x c,X.env.cells.lookup x=some c→c≠b
 bs:∀ b o,X.base.get? b=some o→X.s₀.heap.get? b=some o∧X.H₀ b=none
 bsz:X.base.objs.size≤X.s₀.heap.objs.size
 noex:∀ b o,X.base.get? b=some o→b∉X.ex
 exfs:∀ b∈X.ex,b∉X.fs
 a18:X.s₀.heap.FunFrames X.base X.outer
 frf:∀ b∈X.fs,X.H₀ b=none
structure Inv (X:Cx) (pins:List (Addr×Obj)) (σ:List (Option V)) (H:Hp) (s:Shared):Prop where
 ok:X.Ok
 os:s.os=X.s₀.os
 bare:AllBare s.gens
 base:Un X.fs X.ex X.H₀ H X.s₀.heap s.heap
 loc:∃ m,s.heap.Ns X.env.locals m∧∀ (i:Nat) (x:Str) (v:V),X.N[i]?=some x→σ[i]?=some (some v)→Vis X.env.scope x→∃ u,RelV v u∧Look X.env s.heap m x u
 cell:∀ x c,X.env.cells.lookup x=some c→∃ v,s.heap.IsCell c v
 free:H X.env.locals=none
 freeC:∀ x c,X.env.cells.lookup x=some c→H c=none
 pin:∀ p∈X.pn++pins,s.heap.get? p.1=some p.2∧H p.1=none∧p.1≠X.env.locals∧p.1∉X.fs∧∀ v,p.2.data≠.cell v
 hok:HOk X.prog X.w H s.heap
 len:σ.length=X.N.length
section
variable {X:Cx}{pins:List (Addr×Obj)}{σ:List (Option V)}{H H':Hp}{s:Shared}{h':Heap}
theorem Cx.Ok.b9b (ok:X.Ok){b:Addr}{o:Obj}(e:X.base.get? b=some o):b∉X.fs:=fun hb=>by
 have:=(ok.a18.mem hb).1
 rw [e] at this; cases this
theorem Inv.bs (I:Inv X pins σ H s):∀ b o,X.base.get? b=some o→s.heap.get? b=some o∧H b=none:=fun b o e=>
 ⟨I.base.keep b o (I.ok.bs b o e).1 (I.ok.bs b o e).2 (I.ok.b9b e) (I.ok.noex b o e),I.base.free b o (I.ok.bs b o e).1 (I.ok.bs b o e).2 (I.ok.noex b o e)⟩
theorem Inv.bk (I:Inv X pins σ H s):∀ b o,X.base.get? b=some o→s.heap.get? b=some o:=fun b o e=>(I.bs b o e).1
theorem Inv.mod (I:Inv X pins σ H s):Mod X.K X.mg X.base:=I.ok.mod
theorem Inv.kIn (I:Inv X pins σ H s):X.K.In s.heap:=I.ok.mod.kin.keeps I.bk
theorem Inv.fr (I:Inv X pins σ H s):∃ m,Fr X.base X.env.locals s.heap m:=
 let ⟨m,hn,_⟩:=I.loc
 ⟨m,hn,I.bk,Nat.le_trans I.ok.bsz I.ok.above⟩
theorem Inv.lt (I:Inv X pins σ H s):X.env.locals < s.heap.objs.size:=let ⟨_,hn,_⟩:=I.loc; hn.lt
theorem Inv.sz (I:Inv X pins σ H s):X.s₀.heap.objs.size≤s.heap.objs.size:=Nat.le_trans I.ok.above (Nat.le_of_lt I.lt)
theorem Inv.b6T (I:Inv X pins σ H s){a:Addr}(h:s.heap.objs.size≤a):a∉X.fs:=fun hb=>by
 refine f9 (I.ok.a18.mem hb) fun _ Z9=>c6 Z9 fun o ho _=>?_
 exact absurd (Nat.lt_of_lt_of_le (Heap.lt_size ho) (Nat.le_trans I.sz h)) (Nat.lt_irrefl _)
theorem Inv.cne (I:Inv X pins σ H s):∀ x c,X.env.cells.lookup x=some c→c≠X.env.locals:=fun x c e z=>by
 refine l6 (I.cell x c e) fun v o ho hd=>?_
 refine c6 (I.loc) fun m Z1 _=>?_; refine E5 (Z1) fun o' es ep ho' hd' _=>?_
 rw [z,ho'] at ho; cases ho; rw [hd'] at hd; cases hd
theorem Inv.a18 (I:Inv X pins σ H s):s.heap.FunFrames X.base X.outer:=by
 have all:∀ (l:List Env),(∀ b∈frs l,b∈X.fs)→X.s₀.heap.FunFrames X.base l→s.heap.FunFrames X.base l:=by
  intro l
  induction l with
  | nil=>intro _ _; trivial
  | cons env r ih=>
   intro hs hl
   refine n8 (hl) fun hk Z1 hr=>?_; refine R8 (Z1) fun L o hf hn ho hd=>?_
   have hL:L∈X.fs:=hs L (by unfold frs; rw [List.filterMap_cons,hf]; exact List.mem_cons_self)
   obtain ⟨sl,e⟩:=I.base.slot L o ho (I.ok.frf L hL) hL fun z=>I.ok.exfs L z hL
   exact ⟨hk,⟨L,_,hf,hn,e,hd⟩,ih (fun b hb=>hs b (by unfold frs; rw [List.filterMap_cons,hf]; exact List.mem_cons_of_mem _ hb)) hr⟩
 exact all X.outer (fun _ hb=>hb) I.ok.a18
theorem Inv.stack (I:Inv X pins σ H s):s.heap.FunFrames X.base X.stack:=by
 refine Or.elim (I.ok.stk) (fun e=>?_) fun Z1=>f9 (Z1) fun e hf=>?_
 ·rw [e]; exact I.a18
 ·rw [e]
  refine c6 (I.loc) fun m hn _=>?_
  refine .cons (by rw [I.ok.kind]; decide) hf hn ?_ I.a18
  exact Heap.get?_none_of_le (Nat.le_trans I.ok.bsz I.ok.above)
theorem Inv.a2J (I:Inv X pins σ H s):∀ b∈frs X.stack,b∈X.env.locals::X.fs:=fun b hb=>by
 refine Or.elim (I.ok.stk) (fun e=>?_) fun Z1=>f9 (Z1) fun e hf=>?_
 ·rw [e] at hb; exact List.mem_cons_of_mem _ hb
 ·rw [e] at hb
  unfold frs at hb
  rw [List.filterMap_cons,hf] at hb
  exact hb
theorem Inv.a9t (I:Inv X pins σ H s):∀ b∈frs X.stack,H b=none:=fun b hb=>by
 refine Or.elim (List.mem_cons.mp (I.a2J b hb)) (fun e=>?_) fun hb=>?_
 ·rw [e]; exact I.free
 ·refine f9 (I.ok.a18.mem hb) fun _ Z9=>c6 Z9 fun o ho _=>?_
  exact I.base.free b o ho (I.ok.frf b hb) fun z=>I.ok.exfs b z hb
theorem Inv.step {g':Array GenState}{t':Nat}{d':Drawn}{ch:List Addr}(I:Inv X pins σ H s)
  (hch:∀ b∈ch,(b∈X.ex∨X.s₀.heap.objs.size≤b)∧b≠X.env.locals∧(∀ x c,X.env.cells.lookup x=some c→c≠b)∧∀ p∈X.pn++pins,p.1≠b)
  (keep:∀ b o,b≠X.env.locals→b∉X.fs→b∉ch→s.heap.get? b=some o→H b=none→h'.get? b=some o)
  (slot:∀ b o,b≠X.env.locals→b∈X.fs→b∉ch→s.heap.get? b=some o→H b=none→∃ sl,h'.get? b=some { o with slots:=sl }) (free:∀ b o,b∉ch→s.heap.get? b=some o→H b=none→H' b=none)
  (there:∀ b o,b∉ch→s.heap.get? b=some o→∃ o',h'.get? b=some o')
  (tups:∀ b xs,H b=some (.tup xs)→H' b=some (.tup xs)) (frzs:∀ b o u,H b=some (.frz o u)→H' b=some (.frz o u)) (tbls:∀ b ps,H b=some (.tbl ps)→∃ more,H' b=some (.tbl (ps++more)))
  (ns:∀ m,s.heap.Ns X.env.locals m→h'.Ns X.env.locals m) (hok:HOk X.prog X.w H' h') (hg:AllBare g'):
  Inv X pins σ H' { s with heap:=h',gens:=g',drawn:=d',toks:=t' }:=by
 have neL:∀ b o,X.s₀.heap.get? b=some o→b≠X.env.locals:=fun b o e=>Nat.ne_of_lt (Nat.lt_of_lt_of_le (Heap.lt_size e) I.ok.above)
 have neC:∀ b o,X.s₀.heap.get? b=some o→b∉X.ex→b∉ch:=fun b o e hx hb=>by
  refine Or.elim ((hch b hb).1) (fun z=>?_) fun z=>?_
  ·exact hx z
  ·exact absurd (Nat.lt_of_lt_of_le (Heap.lt_size e) z) (Nat.lt_irrefl _)
 have cellK:∀ x c,X.env.cells.lookup x=some c→∀ v,s.heap.IsCell c v→h'.IsCell c v:=fun x c e v Z9=>c6 Z9 fun o ho hd=>by
  have nch:c∉ch:=fun z=>(hch c z).2.2.1 x c e rfl
  by_cases hc:c∈X.fs
  ·refine g8 (slot c o (I.cne x c e) hc nch ho (I.freeC x c e)) fun sl q=>?_
   exact ⟨_,q,hd⟩
  ·exact ⟨o,keep c o (I.cne x c e) hc nch ho (I.freeC x c e),hd⟩
 refine ⟨I.ok,I.os,hg,⟨fun b o e n hb hx=>?_,fun b o e n hb hx=>?_,fun b o e n hx=>?_,fun b o e hx=>?_,fun b xs e=>tups b xs (I.base.tups b xs e),fun b o xs e=>frzs b o xs (I.base.frzs b o xs e),fun b ps e=>?_⟩,?_,fun x c e=>?_,?_,fun x c e=>?_,fun p hp=>?_,hok,I.len⟩
 ·exact keep b o (neL b o e) hb (neC b o e hx) (I.base.keep b o e n hb hx) (I.base.free b o e n hx)
 ·refine g8 (I.base.slot b o e n hb hx) fun sl e1=>?_
  refine g8 (slot b _ (neL b o e) hb (neC b o e hx) e1 (I.base.free b o e n hx)) fun sl' e2=>?_
  exact ⟨sl',e2⟩
 ·refine g8 (I.base.there b o e hx) fun o' e1=>?_
  exact free b o' (neC b o e hx) e1 (I.base.free b o e n hx)
 ·refine g8 (I.base.there b o e hx) fun o' e1=>?_
  exact there b o' (neC b o e hx) e1
 ·refine g8 (I.base.tbls b ps e) fun m1 e1=>?_
  refine g8 (tbls b _ e1) fun m2 e2=>?_
  exact ⟨m1++m2,by rw [e2,Array.append_assoc]⟩
 ·refine c6 (I.loc) fun m hn hl=>?_
  refine ⟨m,ns m hn,fun i x v e1 e2 e3=>?_⟩
  refine c6 (hl i x v e1 e2 e3) fun u r l=>?_
  refine ⟨u,r,?_⟩
  rcases l with l | ⟨k,c,e,z⟩
  ·exact .inl l
  ·exact .inr ⟨k,c,e,cellK x c e _ z⟩
 ·refine g8 (I.cell x c e) fun v z=>?_
  exact ⟨v,cellK x c e v z⟩
 ·refine c6 (I.loc) fun m Z1 _=>?_; refine D0 (Z1) fun o _ _ ho _=>?_
  exact free _ o (fun z=>(hch _ z).2.1 rfl) ho I.free
 ·refine l6 (I.cell x c e) fun v o ho hd=>?_
  exact free c o (fun z=>(hch c z).2.2.1 x c e rfl) ho (I.freeC x c e)
 ·refine a1t (I.pin p hp) fun e n ne nf d=>?_
  have nch:p.1∉ch:=fun z=>(hch p.1 z).2.2.2 p hp rfl
  exact ⟨keep p.1 p.2 ne nf nch e n,free p.1 p.2 nch e n,ne,nf,d⟩
theorem Inv.un {t':Nat}(I:Inv X pins σ H s)(u:Un X.fs [] H H' s.heap h')(hok:HOk X.prog X.w H' h'):Inv X pins σ H' { s with heap:=h',toks:=t' }:=by
 refine c6 (id I.loc) fun m Z1 _=>?_; refine D0 (Z1) fun o es ep ho r=>?_
 refine g8 (u.any ho I.free (by simp)) fun sl hL=>?_
 exact I.step (g':=s.gens) (d':=s.drawn) (ch:=[]) (fun _ z=>nomatch z) (fun b o _ hb _ e n=>u.keep b o e n hb (by simp)) (fun b o _ hb _ e n=>u.slot b o e n hb (by simp)) (fun b o _ e n=>u.free b o e n (by simp)) (fun b o _ e=>u.there b o e (by simp)) u.tups u.frzs u.tbls (fun m' hm=>by
  refine D0 (hm) fun o' es' ep' ho' r'=>?_
  rw [ho] at ho'; cases ho'
  exact ⟨_,es',ep',hL,r'⟩) hok I.bare
theorem Inv.call {g':Array GenState}{t':Nat}{d':Drawn}{ch:List Addr}(I:Inv X pins σ H s)(u:Un (frs X.stack) ch H H' s.heap h')(hok:HOk X.prog X.w H' h')(hg:AllBare g')
  (hch:∀ b∈ch,(b∈X.ex∨X.s₀.heap.objs.size≤b)∧b≠X.env.locals∧(∀ x c,X.env.cells.lookup x=some c→c≠b)∧∀ p∈X.pn++pins,p.1≠b):
  Inv X pins σ H' { s with heap:=h',gens:=g',drawn:=d',toks:=t' }:=by
 refine c6 (id I.loc) fun m Z1 _=>?_; refine D0 (Z1) fun o es ep ho r=>?_
 obtain ⟨sl,hL⟩:=u.any ho I.free fun z=>(hch _ z).2.1 rfl
 exact I.step (ch:=ch) hch (fun b o hL hb hc e n=>u.keep b o e n (fun z=>(List.mem_cons.mp (I.a2J b z)).elim hL hb) hc) (fun b o _ _ hc e n=>u.any e n hc) (fun b o hc e n=>u.free b o e n hc) (fun b o hc e=>u.there b o e hc) u.tups u.frzs u.tbls (fun m' hm=>by
  refine D0 (hm) fun o' es' ep' ho' r'=>?_
  rw [ho] at ho'; cases ho'
  exact ⟨_,es',ep',hL,r'⟩) hok hg
theorem Inv.turned {t':Nat}{it:Addr}(I:Inv X pins σ H s)(k:∀ b o,b≠it→s.heap.get? b=some o→h'.get? b=some o)(hn:H it=none)(hL:it≠X.env.locals)
  (h1:it∈X.ex∨X.s₀.heap.objs.size≤it) (h2:∀ x c,X.env.cells.lookup x=some c→c≠it) (h3:∀ p∈X.pn++pins,p.1≠it):Inv X pins σ H { s with heap:=h',toks:=t' }:=by
 have nit:∀ b u,H b=some u→b≠it:=fun b u e z=>by rw [z,hn] at e; cases e
 refine I.step (g':=s.gens) (d':=s.drawn) (ch:=[it]) (fun b hb=>?_) (fun b o _ _ hc e _=>k b o (fun z=>hc (by simp [z])) e) (fun b o _ _ hc e _=>⟨o.slots,k b o (fun z=>hc (by simp [z])) e⟩) (fun _ _ _ _ n=>n)
  (fun b o hc e=>⟨o,k b o (fun z=>hc (by simp [z])) e⟩) (fun _ _ e=>e) (fun _ _ _ e=>e) (fun b ps e=>⟨#[],by rw [e]; simp⟩) (fun m hm=>?_) (fun b u e=>?_) I.bare
 ·have e:b=it:=by simpa using hb
  subst e
  exact ⟨h1,hL,h2,h3⟩
 ·refine D0 (hm) fun o es ep ho r=>?_
  exact ⟨o,es,ep,k _ o (Ne.symm hL) ho,r⟩
 ·refine (I.hok b u e).stay (fun c v hc q=>k c v ?_ q) (fun _ q=>q) fun _ _ q=>q
  refine Or.elim (hc) (fun z=>?_) fun z=>?_
  ·rw [z]; exact nit b u e
  ·exact nit c _ z
theorem Inv.tok (I:Inv X pins σ H s)(t:Nat):Inv X pins σ H { s with toks:=t }:=I.un (h':=s.heap) (t':=t) Un.refl I.hok
theorem Inv.kept {t':Nat}(I:Inv X pins σ H s)(k:∀ b u,s.heap.get? b=some u→h'.get? b=some u):Inv X pins σ H { s with heap:=h',toks:=t' }:=I.un (Un.kept k) (I.hok.kept k)
theorem Inv.laid {a:Addr}{o:HO}{t':Nat}(I:Inv X pins σ H s)(k:∀ b u,s.heap.get? b=some u→h'.get? b=some u)(hp:s.heap.objs.size≤a)(new:D8 X.prog X.w (upd H a o) h' a o):
  Inv X pins σ (upd H a o) { s with heap:=h',toks:=t' }:=I.un (Un.laid k hp (I.hok.fresh hp)) (I.hok.laid k hp new)
theorem Inv.write {x e:Addr}{o:HO}{t':Nat}(I:Inv X pins σ H s)(mu:Mut (H x))(he:e=x∨H e=some (.own x))(k:∀ b u,b≠e→s.heap.get? b=some u→h'.get? b=some u)(heo:∃ u,h'.get? e=some u)
  (new:D8 X.prog X.w (upd H x o) h' x o):Inv X pins σ (upd H x o) { s with heap:=h',toks:=t' }:=I.un (Un.write mu he k heo) (I.hok.write mu he k heo new)
theorem Inv.weak {σ':List (Option V)}(I:Inv X pins σ H s)(hl:σ'.length=σ.length)(w:∀ (i:Nat) v,σ'[i]?=some (some v)→σ[i]?=some (some v)):Inv X pins σ' H s:=
 ⟨I.ok,I.os,I.bare,I.base,let ⟨m,hn,hl'⟩:=I.loc; ⟨m,hn,fun i x v e1 e2 e3=>hl' i x v e1 (w i v e2) e3⟩,I.cell,I.free,I.freeC,I.pin,I.hok,hl.trans I.len⟩
theorem Inv.a2s {pins':List (Addr×Obj)}(I:Inv X pins σ H s)(h:∀ p∈pins',s.heap.get? p.1=some p.2∧H p.1=none∧p.1≠X.env.locals∧p.1∉X.fs∧∀ v,p.2.data≠.cell v):Inv X pins' σ H s:=
 ⟨I.ok,I.os,I.bare,I.base,I.loc,I.cell,I.free,I.freeC,fun p hp=>(List.mem_append.mp hp).elim (fun z=>I.pin p (List.mem_append_left _ z)) (h p),I.hok,I.len⟩
theorem a7Z {N:List Str}(hN:N.Nodup){i j:Nat}{x:Str}(a:N[i]?=some x)(b:N[j]?=some x):i=j:=by
 obtain ⟨h1,e1⟩:=List.getElem?_eq_some_iff.mp a
 obtain ⟨h2,e2⟩:=List.getElem?_eq_some_iff.mp b
 exact (List.getElem_inj hN).mp (e1.trans e2.symm)
theorem a5E {M:Model}{A:Around}{E:Value→Shared→Prop}{i:Nat}{x:Str}{v:V}{u:Value}{Q:Unit→Shared→Prop}(I:Inv X pins σ H s)(hN:X.N.Nodup)(hi:X.N[i]?=some x)(hx:Loc X.env.scope x)(r:RelV v u)
  (h:∀ s',Inv X pins (σ.set i (some v)) H s'→(∃ a,Heap.SameBut a s.heap s'.heap∧(a=X.env.locals∨X.env.cells.lookup x=some a))→Q () s') (hf:autoParam (X.fn x=true∨X.env.scope.names.lookup x=some .local) au0._auto_1):wpAny M A (storeName X.env x u) Q E s:=by
 refine c6 (id I.loc) fun m hn hl=>?_
 have hcls:(X.env.scope.kind == .class || (X.env.scope.kind == .module && X.env.locals != X.env.globals))=false:=by rw [I.ok.kind]; rfl
 have hiσ:i < σ.length:=by rw [I.len]; exact (List.getElem?_eq_some_iff.mp hi).1
 have cne:=I.cne
 have tracked:∀ {a:Addr} {h':Heap},(∃ o,s.heap.get? a=some o∧H a=none)→Heap.SameBut a s.heap h'→HOk X.prog X.w H h':=fun {a h'} ha hs b ob e=>by
  refine c6 (ha) fun _ _ hfree=>?_
  refine (I.hok b ob e).stay (fun c w' hc q=>(hs.2 c ?_).trans q) (fun _ q=>q) fun _ _ q=>q
  rintro rfl
  rcases hc with rfl | hc
  ·rw [hfree] at e; cases e
  ·rw [hfree] at hc; cases hc
 refine Or.elim (hx) (fun hk=>?_) fun hk=>?_
 ·refine wpAny_storeName_local hk hn (fun h' hn' hs=>?_) hcls
  refine D0 (id hn) fun oL _ _ hoL _=>?_
  refine h _ ⟨I.ok,I.os,I.bare,⟨fun b o e n hb hx=>?_,fun b o e n hb hx=>?_,I.base.free,fun b o e hx=>?_,I.base.tups,I.base.frzs,I.base.tbls⟩,⟨_,hn',fun j y v' e1 e2 e3=>?_⟩,fun y c e=>?_,I.free,I.freeC,fun p hp=>?_,tracked ⟨oL,hoL,I.free⟩ hs,by simpa using I.len⟩ ⟨_,hs,.inl rfl⟩
  ·exact (hs.2 b (Nat.ne_of_lt (Nat.lt_of_lt_of_le (Heap.lt_size e) I.ok.above))).trans (I.base.keep b o e n hb hx)
  ·refine g8 (I.base.slot b o e n hb hx) fun sl e1=>?_
   exact ⟨sl,(hs.2 b (Nat.ne_of_lt (Nat.lt_of_lt_of_le (Heap.lt_size e) I.ok.above))).trans e1⟩
  ·refine g8 (I.base.there b o e hx) fun o' e1=>?_
   exact ⟨o',(hs.2 b (Nat.ne_of_lt (Nat.lt_of_lt_of_le (Heap.lt_size e) I.ok.above))).trans e1⟩
  ·by_cases hj:j=i
   ·subst hj
    rw [hi] at e1; cases e1
    rw [List.getElem?_set_self hiσ] at e2
    cases e2
    exact ⟨u,r,.inl ⟨hk,by simp⟩⟩
   ·rw [List.getElem?_set_ne (Ne.symm hj)] at e2
    refine c6 (hl j y v' e1 e2 e3) fun u' r' q=>?_
    refine ⟨u',r',?_⟩
    rcases q with ⟨k,e⟩ | ⟨k,c,e,z⟩
    ·refine .inl ⟨k,?_⟩
     have:y≠x:=fun e=>hj (a7Z hN e1 (e ▸ hi))
     simp [this,e]
    ·exact .inr ⟨k,c,e,z.sameBut hs (cne y c e)⟩
  ·refine g8 (I.cell y c e) fun w' z=>?_
   exact ⟨w',z.sameBut hs (cne y c e)⟩
  ·refine a1t (I.pin p hp) fun e n ne nf d=>?_
   exact ⟨(hs.2 p.1 ne).trans e,n,ne,nf,d⟩
 ·have hfn:X.fn x=true:=by
   refine Or.elim (hf) (fun z=>?_) fun z=>?_
   ·exact z
   ·rw [z] at hk; cases hk
  refine g8 (I.ok.has x (.inl hk)) fun c hc=>?_
  refine g8 (I.cell x c hc) fun w' z=>?_
  refine wpAny_storeName_cell I.ok.kind hk hc z (fun h' hc' hs=>?_)
  refine c6 (id z) fun oc hoc hocd=>?_
  refine h { s with heap:=h' } ⟨I.ok,I.os,I.bare,⟨fun b o e n hb hx=>?_,fun b o e n hb hx=>?_,I.base.free,fun b o e hx=>?_,I.base.tups,I.base.frzs,I.base.tbls⟩,⟨m,hn.sameBut hs (Ne.symm (cne x c hc)),fun j y v' e1 e2 e3=>?_⟩,fun y c' e=>?_,I.free,I.freeC,fun p hp=>?_,tracked ⟨oc,hoc,I.freeC x c hc⟩ hs,by simpa using I.len⟩ ⟨c,hs,.inr hc⟩
  ·exact (hs.2 b (Nat.ne_of_lt (Nat.lt_of_lt_of_le (Heap.lt_size e) (I.ok.cab x c hfn hc)))).trans (I.base.keep b o e n hb hx)
  ·refine g8 (I.base.slot b o e n hb hx) fun sl e1=>?_
   exact ⟨sl,(hs.2 b (Nat.ne_of_lt (Nat.lt_of_lt_of_le (Heap.lt_size e) (I.ok.cab x c hfn hc)))).trans e1⟩
  ·refine g8 (I.base.there b o e hx) fun o' e1=>?_
   exact ⟨o',(hs.2 b (Nat.ne_of_lt (Nat.lt_of_lt_of_le (Heap.lt_size e) (I.ok.cab x c hfn hc)))).trans e1⟩
  ·by_cases hj:j=i
   ·subst hj
    rw [hi] at e1; cases e1
    rw [List.getElem?_set_self hiσ] at e2
    cases e2
    exact ⟨u,r,.inr ⟨.inl hk,c,hc,hc'⟩⟩
   ·rw [List.getElem?_set_ne (Ne.symm hj)] at e2
    refine c6 (hl j y v' e1 e2 e3) fun u' r' q=>?_
    refine ⟨u',r',?_⟩
    rcases q with q | ⟨k,c',e,z'⟩
    ·exact .inl q
    ·refine .inr ⟨k,c',e,z'.sameBut hs ?_⟩
     rintro rfl
     exact hj (a7Z hN e1 (I.ok.inj _ _ _ e hc ▸ hi))
  ·by_cases hcc:c'=c
   ·subst hcc; exact ⟨_,hc'⟩
   ·refine g8 (I.cell y c' e) fun w2 z2=>?_
    exact ⟨w2,z2.sameBut hs hcc⟩
  ·refine a1t (I.pin p hp) fun e n ne nf d=>?_
   refine ⟨(hs.2 p.1 ?_).trans e,n,ne,nf,d⟩
   intro q
   rw [q,hoc] at e
   have q':oc=p.2:=Option.some.inj e
   exact d w' (by rw [← q']; exact hocd)
theorem a4B {M:Model}{A:Around}{E:Value→Shared→Prop}{i:Nat}{x:Str}{v:V}{u:Value}{Q:Unit→Shared→Prop}(I:Inv X pins σ H s)(hN:X.N.Nodup)(hi:X.N[i]?=some x)(hx:Loc X.env.scope x)(r:RelV v u)
  (h:∀ s',Inv X pins (σ.set i (some v)) H s'→Q () s') (hf:autoParam (X.fn x=true∨X.env.scope.names.lookup x=some .local) au0._auto_1):wpAny M A (storeName X.env x u) Q E s:=
 a5E I hN hi hx r (fun s' I' _=>h s' I') hf
theorem Inv.b8e {s':Shared}{ch:List Addr}(I:Inv X pins σ H s)(ho:s'.os=s.os)(u:Un (frs X.stack) ch H H' s.heap s'.heap)(hok:HOk X.prog X.w H' s'.heap)(hg:AllBare s'.gens)
  (hch:∀ b∈ch,(b∈X.ex∨X.s₀.heap.objs.size≤b)∧b≠X.env.locals∧(∀ x c,X.env.cells.lookup x=some c→c≠b)∧∀ p∈X.pn++pins,p.1≠b):Inv X pins σ H' s':=by
 obtain ⟨h',g',d',t',o'⟩:=s'
 have e:o'=s.os:=ho
 subst e
 exact I.call (g':=g') (t':=t') (d':=d') u hok hg hch
end
noncomputable abbrev XK:=Value→Option Addr→Hp→Prop
noncomputable abbrev St:=List (Option V)
noncomputable abbrev VK:=V→Hp→Prop
noncomputable abbrev TE:=St→Hp→VK→Prop
noncomputable abbrev TT:=St→Hp→(Bool→Hp→Prop)→Prop
noncomputable abbrev TA:=St→Hp→(List V→Hp→Prop)→Prop
structure Ends where
 nx:St→Hp→Prop
 rt:VK
 bk:St→Hp→Prop:=fun _ _=>False
 ct:St→Hp→Prop:=fun _ _=>False
noncomputable abbrev TS:=Ends→St→Hp→Prop
noncomputable def EP (X:Cx)(pins:List (Addr×Obj))(σ:St)(Q:VK)(u:Value)(s':Shared):Prop:=∃ v H',Inv X pins σ H' s'∧RelV v u∧Q v H'
noncomputable def TP (X:Cx)(pins:List (Addr×Obj))(σ:St)(Q:Bool→Hp→Prop)(b:Bool)(s':Shared):Prop:=∃ H',Inv X pins σ H' s'∧Q b H'
noncomputable def AP (X:Cx)(pins:List (Addr×Obj))(σ:St)(Q:List V→Hp→Prop)(us:List Value)(s':Shared):Prop:=∃ vs H',Inv X pins σ H' s'∧Vals vs us∧Q vs H'
noncomputable def SP (X:Cx)(pins:List (Addr×Obj))(D:Ends)(f:Flow)(s':Shared):Prop:=
 match f with
 | .next=>∃ σ' H',Inv X pins σ' H' s'∧D.nx σ' H'
 | .brk=>∃ σ' H',Inv X pins σ' H' s'∧D.bk σ' H'
 | .cont=>∃ σ' H',Inv X pins σ' H' s'∧D.ct σ' H'
 | .ret u=>∃ v σ' H',Inv X pins σ' H' s'∧RelV v u∧D.rt v H'
noncomputable def PE (X:Cx)(e:Expr)(t:TE):Prop:=
 ∀ (pins:List (Addr×Obj)) (s:Shared) (σ:St) (H:Hp) (Q:VK),Inv X pins σ H s→t σ H Q→wpAny (model X.prog X.w) X.A (eval e X.env) (EP X pins σ Q) X.xe s
noncomputable def PT (X:Cx)(e:Expr)(t:TT):Prop:=
 ∀ (pins:List (Addr×Obj)) (s:Shared) (σ:St) (H:Hp) (Q:Bool→Hp→Prop),Inv X pins σ H s→t σ H Q→wpAny (model X.prog X.w) X.A (isTrue e X.env (eval e X.env)) (TP X pins σ Q) X.xe s
noncomputable def PW (X:Cx)(e:Expr)(t:TT):Prop:=
 ∀ (whole:Sem Value) (pins:List (Addr×Obj)) (s:Shared) (σ:St) (H:Hp) (Q:Bool→Hp→Prop),Inv X pins σ H s→t σ H Q→wpAny (model X.prog X.w) X.A (isTrue e X.env whole) (TP X pins σ Q) X.xe s
theorem PW.pt {X:Cx}{e:Expr}{t:TT}(h:PW X e t):PT X e t:=h _
noncomputable def PA (X:Cx)(es:List Expr)(t:TA):Prop:=
 ∀ (pos:Pos) (pins:List (Addr×Obj)) (s:Shared) (σ:St) (H:Hp) (Q:List V→Hp→Prop),Inv X pins σ H s→t σ H Q→wpAny (model X.prog X.w) X.A (spliced (backTo pos (starEach es X.env))) (AP X pins σ Q) X.xe s
noncomputable def PS (X:Cx)(st:Stmt)(t:TS):Prop:=
 ∀ (pins:List (Addr×Obj)) (s:Shared) (σ:St) (H:Hp) (D:Ends),Inv X pins σ H s→t D σ H→wpAny (model X.prog X.w) X.A (exec st X.env) (SP X pins D) X.xe s
noncomputable def PSs (X:Cx)(st:List Stmt)(t:TS):Prop:=
 ∀ (pins:List (Addr×Obj)) (s:Shared) (σ:St) (H:Hp) (D:Ends),Inv X pins σ H s→t D σ H→wpAny (model X.prog X.w) X.A (execs st X.env) (SP X pins D) X.xe s
theorem E6 {α:Type}{t:Sem α}{Q Q':α→Shared→Prop}{M:Model}{A:Around}{E:Value→Shared→Prop}{s:Shared}(h:wpAny M A t Q E s)(hQ:∀ a s,Q a s→Q' a s):wpAny M A t Q' E s:=wpAny_mono h hQ fun _ _ x=>x
end L2
namespace L2
open PySem PySem.Spec PyProof.Rows
section
variable {X:Cx}
noncomputable def b5F (i:Nat):TE:=fun σ H Q=>∃ v,σ[i]?=some (some v)∧Q v H
noncomputable def tC (v:V):TE:=fun _ H Q=>Q v H
theorem a0u {i:Nat}{x:Str}{pos:Pos}(hN:X.N[i]?=some x)(hv:Vis X.env.scope x)(hd:autoParam ((x == ("__debug__":Str))=false) Y0._auto_1) (hcd:autoParam ((x == ("__classdict__":Str))=false) Y0._auto_1):PE X (.Name x pos) (b5F i):=by
 intro pins s σ H Q I h
 refine c6 (h) fun v e h=>?_
 refine c6 (I.loc) fun m hn hl=>?_
 refine c6 (hl i x v hN e hv) fun u r l=>?_
 have fin:EP X pins σ Q u s:=⟨v,H,I,r,h⟩
 rcases l with ⟨hk,hm⟩ | ⟨hk,c,hc,hcell⟩
 ·exact wpAny_Name (wpAny_loadName_local I.ok.kind hk hn hm fin) hd
 ·refine Or.elim (hk) (fun hk=>?_) fun hk=>?_
  ·exact wpAny_Name (wpAny_loadName_cell I.ok.kind hk hc hcell fin) hd
  ·exact wpAny_Name (wpAny_loadName_free I.ok.kind hk hc hcell fin hcd) hd
theorem b67 {i j pos}:PE X (.Constant (.int i) j pos) (tC (.int i)):=fun _ _ _ H _ I h=>wpAny_Constant_int ⟨.int i,H,I.tok _,⟨_,rfl⟩,h⟩
theorem b7E {b j pos}:PE X (.Constant (.bool b) j pos) (tC (.bl b)):=fun _ _ _ H _ I h=>Constant_bool ⟨.bl b,H,I,rfl,h⟩
theorem b5L {j pos}:PE X (.Constant .none j pos) (tC .w6):=fun _ _ _ H _ I h=>Constant_none ⟨.w6,H,I,rfl,h⟩
theorem b5E {x j pos}:PE X (.Constant (.str x) j pos) (tC (.str x)):=fun _ _ _ H _ I h=>Calls.Constant_str ⟨.str x,H,I.tok _,⟨_,rfl⟩,h⟩
noncomputable def Gl (X:Cx)(x:Str):Prop:=X.env.kindOf x=some .globalImplicit
theorem a6A {E:Value→Shared→Prop}{pins:List (Addr×Obj)}{s:Shared}{σ:St}{H:Hp}{x:Str}{u:Value}{pos:Pos}{Q:Value→Shared→Prop}(I:Inv X pins σ H s)(hg:Gl X x)(hm:X.mg x=some u)(h:Q u s)
  (hd:autoParam ((x == ("__debug__":Str))=false) Y0._auto_1):wpAny (model X.prog X.w) X.A (eval (.Name x pos) X.env) Q E s:=
 Calls.Name_function_global I.ok.kind hg (Calls.loadGlobal_global (by rw [I.ok.glob]; exact I.mod.glob.keeps I.bk) hm h) hd
theorem V3 {E:Value→Shared→Prop}{pins:List (Addr×Obj)}{s:Shared}{σ:St}{H:Hp}{x:Str}{u:Value}{pos:Pos}{Q:Value→Shared→Prop}(I:Inv X pins σ H s)(hg:Gl X x)(hm:X.mg x=none)(hv:bootBuiltins x=some u)(h:Q u s)
  (hn:autoParam (x≠"__name__") Y0._auto_1) (hd:autoParam ((x == ("__debug__":Str))=false) Y0._auto_1):wpAny (model X.prog X.w) X.A (eval (.Name x pos) X.env) Q E s:=by
 refine c6 (I.mod.blt) fun mb h1 h2=>?_
 exact Calls.Name_function_global I.ok.kind hg (Calls.loadGlobal_builtin (by rw [I.ok.glob]; exact I.mod.glob.keeps I.bk) hm (by rw [I.ok.blt]; exact h1.keeps I.bk) ((h2 x hn).trans hv) h) hd
theorem b3N {x:Str}{v:V}{u:Value}{pos:Pos}(hg:Gl X x)(hm:X.mg x=some u)(r:RelV v u)(hd:autoParam ((x == ("__debug__":Str))=false) Y0._auto_1):PE X (.Name x pos) (tC v):=
 fun _ _ _ H _ I h=>a6A I hg hm ⟨v,H,I,r,h⟩ hd
variable {a b:Expr}{ta tb:TE}{pos:Pos}
noncomputable def PC (X:Cx)(op:CmpOp)(a b:Expr)(t:TE):Prop:=
 ∀ (pins:List (Addr×Obj)) (s:Shared) (σ:St) (H:Hp) (Q:VK),Inv X pins σ H s→t σ H Q→
  wpAny (model X.prog X.w) X.A (eval a X.env) (fun v s₁=>wpAny (model X.prog X.w) X.A (eval b X.env) (fun u s₂=>wpAny (model X.prog X.w) X.A (compareOp op v u) (EP X pins σ Q) X.xe s₂) X.xe s₁) X.xe s
theorem b1R (b:Expr){op:CmpOp}(h:op≠.In)(h2:op≠.NotIn):behindInMarks op b=false:=by
 have e1:(op == CmpOp.In)=false:=by cases op <;> first | rfl | exact absurd rfl h
 have e2:(op == CmpOp.NotIn)=false:=by cases op <;> first | rfl | exact absurd rfl h2
 cases b <;> simp [behindInMarks,e1,e2]
noncomputable def b9O (ta:TE):TE:=fun σ H Q=>ta σ H fun x H1=>Q (.bl (decide (x=.w6))) H1
noncomputable def b7p (ta:TE):TE:=fun σ H Q=>ta σ H fun x H1=>Q (.bl (!decide (x=.w6))) H1
theorem RelV.a7E {x:V}{v:Value}(r:RelV x v):(v == Value.none)=decide (x=.w6):=by
 cases x with
 | w6=>cases r; rfl
 | bl _=>cases r; rfl
 | int _=>refine g8 (r) fun t Z1=>?_; subst Z1; rfl
 | str _=>refine g8 (r) fun t Z1=>?_; subst Z1; rfl
 | byt _=>refine g8 (r) fun t Z1=>?_; subst Z1; rfl
 | flt _=>refine g8 (r) fun t Z1=>?_; subst Z1; rfl
 | ref _=>cases r; rfl
 | ty _=>cases r; rfl
theorem b5P {j pos'}(ha:PE X a ta):PC X .Is a (.Constant .none j pos') (b9O ta):=by
 intro pins s σ H Q I h
 refine E6 (ha pins s σ H _ I h) fun v s1 Z0=>i9 (Z0) fun x H1 I1 r1 q1=>?_
 exact Constant_none (is_none_gen ⟨.bl _,H1,I1,by rw [r1.a7E]; rfl,q1⟩)
theorem b3I {j pos'}(ha:PE X a ta):PC X .IsNot a (.Constant .none j pos') (b7p ta):=by
 intro pins s σ H Q I h
 refine E6 (ha pins s σ H _ I h) fun v s1 Z0=>i9 (Z0) fun x H1 I1 r1 q1=>?_
 exact Constant_none (isnot_none_gen ⟨.bl _,H1,I1,by rw [r1.a7E]; rfl,q1⟩)
noncomputable def tB (t:TE):TT:=fun σ H Q=>t σ H fun x H1=>∃ c,x=.bl c∧Q c H1
theorem b1k {op:CmpOp}{t:TE}(h:PC X op a b t)(h1:autoParam (behindInMarks op b=false) au2._auto_1):PT X (.Compare a [op] [b] pos) (tB t):=by
 intro pins s σ H Q I hw
 refine wpAny_isTrue_Compare1 (E6 (h pins s σ H _ I hw) fun v s1 h1=>E6 h1 fun u s2 h2=>E6 h2 fun c s3 Z9=>i9 Z9 fun x H1 I1 r1 q1=>?_) h1
 refine c6 (q1) fun d Z1 q=>?_; subst Z1
 cases r1
 exact wpAny_truthy_bool ⟨H1,I1,q⟩
variable {tA tB':TT}{rest:List Expr}
noncomputable def b8d (t u:TT):TT:=fun σ H Q=>t σ H fun c H1=>if c=true then u σ H1 Q else Q false H1
noncomputable def tOr (t u:TT):TT:=fun σ H Q=>t σ H fun c H1=>if c=true then Q true H1 else u σ H1 Q
noncomputable def b9a (t:TT):TT:=fun σ H Q=>t σ H fun c H1=>Q (!c) H1
theorem b3X (ha:PT X a tA):PW X (.BoolOp .And [a] pos) tA:=by
 intro wh pins s σ H Q I h
 refine isTrue_and (E6 (ha pins s σ H Q I h) fun c s1 e=>?_)
 cases c with
 | true=>exact isTrue_and_nil e
 | false=>exact e
theorem b6F (ha:PT X a tA):PW X (.BoolOp .Or [a] pos) tA:=by
 intro wh pins s σ H Q I h
 refine isTrue_or (E6 (ha pins s σ H Q I h) fun c s1 e=>?_)
 cases c with
 | false=>exact isTrue_or_nil e
 | true=>exact e
theorem b6o (ha:PT X a tA)(hb:PW X (.BoolOp .And (b::rest) pos) tB'):PW X (.BoolOp .And (a::b::rest) pos) (b8d tA tB'):=by
 intro wh pins s σ H Q I h
 refine isTrue_and (E6 (ha pins s σ H _ I h) fun c s1 Z9=>c6 Z9 fun H1 I1 q1=>?_)
 cases c with
 | true=>exact hb wh pins s1 σ H1 Q I1 q1
 | false=>exact ⟨H1,I1,q1⟩
theorem b7k (ha:PT X a tA)(hb:PW X (.BoolOp .Or (b::rest) pos) tB'):PW X (.BoolOp .Or (a::b::rest) pos) (tOr tA tB'):=by
 intro wh pins s σ H Q I h
 refine isTrue_or (E6 (ha pins s σ H _ I h) fun c s1 Z9=>c6 Z9 fun H1 I1 q1=>?_)
 cases c with
 | true=>exact ⟨H1,I1,q1⟩
 | false=>exact hb wh pins s1 σ H1 Q I1 q1
theorem b5T (ha:PT X a tA):PT X (.UnaryOp .Not a pos) (b9a tA):=by
 intro pins s σ H Q I h
 exact isTrue_not (ha pins s σ H (fun c H1=>Q (!c) H1) I h)
noncomputable def b5e (ta tb:TE):TE:=fun σ H Q=>ta σ H fun x H1=>∃ c,x=.bl c∧if c=true then tb σ H1 Q else Q (.bl false) H1
theorem b6U {op}{t:TE}(h:PE X a t):PE X (.BoolOp op [a] pos) t:=fun pins s σ H Q I hw=>BoolOp_one (h pins s σ H Q I hw)
theorem b5O (ha:PE X a ta)(hb:PE X (.BoolOp .And (b::rest) pos) tb):PE X (.BoolOp .And (a::b::rest) pos) (b5e ta tb):=by
 intro pins s σ H Q I h
 refine BoolOp_and (E6 (ha pins s σ H _ I h) fun v s1 Z9=>i9 Z9 fun x H1 I1 r1 q1=>?_)
 obtain ⟨c,rfl,q1⟩:=q1
 cases r1
 refine wpAny_truthy_bool ?_
 cases c with
 | true=>exact hb pins s1 σ H1 Q I1 q1
 | false=>exact ⟨.bl false,H1,I1,rfl,q1⟩
end
end L2
namespace L2
open PySem PySem.Spec PyProof.Rows
noncomputable def L5 (K:PySem.W.Frag)(H:Hp)(a:Addr)(xs:List V):Prop:=
 Rd H a (.lst xs)∨
  ∃ (o:Obj) (its:Array Value) (n:Nat),K.lookup a=some o∧o.cls=.type "list"∧o.dict=none∧o.data=.seq its n∧its.size≤sizeLine∧Vals xs its.toList
noncomputable def Y8 (K:PySem.W.Frag)(H:Hp)(a:Addr)(xs:List V):Prop:=
 Rd H a (.tup xs)∨
  ∃ (o:Obj) (its:Array Value) (n:Nat),K.lookup a=some o∧o.cls=.type "tuple"∧o.data=.seq its n∧its.size≤sizeLine∧Vals xs its.toList
noncomputable def b9N:Value→Option V
 | .none=>some .w6
 | .bool b=>some (.bl b)
 | .int i _=>some (.int i)
 | .str x _=>some (.str x)
 | .bytes b _=>some (.byt b)
 | .float b _=>some (.flt b)
 | .ref a=>some (.ref a)
 | .type n=>some (.ty n)
 | _=>none
theorem RelV.abs {x:V}{u:Value}(r:RelV x u):b9N u=some x:=by
 cases x with
 | w6=>cases r; rfl
 | bl _=>cases r; rfl
 | int _=>refine g8 (r) fun t Z1=>?_; subst Z1; rfl
 | str _=>refine g8 (r) fun t Z1=>?_; subst Z1; rfl
 | byt _=>refine g8 (r) fun t Z1=>?_; subst Z1; rfl
 | flt _=>refine g8 (r) fun t Z1=>?_; subst Z1; rfl
 | ref _=>cases r; rfl
 | ty _=>cases r; rfl
theorem RelV.inj {x y:V}{u:Value}(r:RelV x u)(q:RelV y u):x=y:=Option.some.inj (r.abs.symm.trans q.abs)
theorem Vals.inj:∀ {xs ys:List V} {us:List Value},Vals xs us→Vals ys us→xs=ys
 | _,_,_,.nil,.nil=>rfl
 | _,_,_,.cons r t,.cons r' t'=>by rw [r.inj r',Vals.inj t t']
section
variable {X:Cx}{pins:List (Addr×Obj)}{σ:St}{H:Hp}{s:Shared}{a:Addr}{xs ys:List V}
theorem L5.of {K:PySem.W.Frag}(h:H a=some (.lst xs)):L5 K H a xs:=.inl (.inl h)
theorem Y8.of {K:PySem.W.Frag}(h:H a=some (.tup xs)):Y8 K H a xs:=.inl (.inl h)
theorem Inv.list (I:Inv X pins σ H s)(h:L5 X.K H a xs):∃ its:List Value,Vals xs its∧PlainL s.heap a its.toArray∧xs.length≤sizeLine:=by
 refine Or.elim (h) (fun h=>?_) fun Z1=>b48 (Z1) fun o its n hk hc hd hs hz r=>?_
 ·refine f9 (h.ok I.hok) fun z Z9=>l6 Z9 fun its n r e=>?_
  exact ⟨its,r,⟨_,n,e,rfl,rfl,rfl⟩,z⟩
 ·refine ⟨its.toList,r,⟨o,n,I.kIn a o hk,hc,hd,by simpa using hs⟩,?_⟩
  have e:=r.length
  simp only [Array.length_toList] at e
  omega
theorem Inv.tuple (I:Inv X pins σ H s)(h:Y8 X.K H a xs):∃ its:List Value,Vals xs its∧IsTup s.heap a its.toArray∧xs.length≤sizeLine:=by
 refine Or.elim (h) (fun h=>?_) fun Z1=>Y9 (Z1) fun o its n hk hc hs hz r=>?_
 ·refine f9 (h.ok I.hok) fun z Z9=>c6 Z9 fun its r p=>?_
  exact ⟨its,r,p,z⟩
 ·refine ⟨its.toList,r,⟨o,I.kIn a o hk,hc,n,by simpa using hs⟩,?_⟩
  have e:=r.length
  simp only [Array.length_toList] at e
  omega
theorem Inv.a1W (I:Inv X pins σ H s)(h:L5 X.K H a xs)(h':L5 X.K H a ys):xs=ys:=by
 refine j7 (I.list h) fun its r Z1 _=>?_; refine R8 (Z1) fun o n e _ _ d=>?_
 refine j7 (I.list h') fun its' r' Z1 _=>?_; refine R8 (Z1) fun o' n' e' _ _ d'=>?_
 rw [e] at e'; cases e'
 rw [d] at d'
 injection d' with d1 _
 have:its=its':=by simpa using congrArg Array.toList d1
 subst this
 exact r.inj r'
theorem Inv.a2R (I:Inv X pins σ H s)(h:Y8 X.K H a xs)(h':Y8 X.K H a ys):xs=ys:=by
 refine j7 (I.tuple h) fun its r Z1 _=>?_; refine j7 (Z1) fun o e _ Z9=>g8 Z9 fun n d=>?_
 refine j7 (I.tuple h') fun its' r' Z1 _=>?_; refine j7 (Z1) fun o' e' _ Z9=>g8 Z9 fun n' d'=>?_
 rw [e] at e'; cases e'
 rw [d] at d'
 injection d' with d1 _
 have:its=its':=by simpa using congrArg Array.toList d1
 subst this
 exact r.inj r'
end
noncomputable abbrev Cx.Q5 (X:Cx)(E:Value→Shared→Prop):Cx:={ X with xe:=E }
noncomputable abbrev Cx.nox (X:Cx):Cx:=X.Q5 fun _ _=>False
theorem Cx.Ok.Q5 {X:Cx}(ok:X.Ok)(E:Value→Shared→Prop):(X.Q5 E).Ok:=
 ⟨ok.mod,ok.kind,ok.glob,ok.blt,ok.above,ok.inj,ok.has,ok.cab,ok.hd,ok.frames,ok.stk,ok.exf,ok.bs,ok.bsz,ok.noex,ok.exfs,ok.a18,ok.frf⟩
theorem Cx.Ok.N8 {X:Cx}{E:Value→Shared→Prop}(ok:(X.Q5 E).Ok):X.Ok:=
 ⟨ok.mod,ok.kind,ok.glob,ok.blt,ok.above,ok.inj,ok.has,ok.cab,ok.hd,ok.frames,ok.stk,ok.exf,ok.bs,ok.bsz,ok.noex,ok.exfs,ok.a18,ok.frf⟩
section
variable {X:Cx}{pins:List (Addr×Obj)}{σ:St}{H:Hp}{s:Shared}{E:Value→Shared→Prop}
theorem Inv.Q5 (I:Inv X pins σ H s)(E:Value→Shared→Prop):Inv (X.Q5 E) pins σ H s:=⟨I.ok.Q5 E,I.os,I.bare,I.base,I.loc,I.cell,I.free,I.freeC,I.pin,I.hok,I.len⟩
theorem Inv.N8 (I:Inv (X.Q5 E) pins σ H s):Inv X pins σ H s:=⟨I.ok.N8,I.os,I.bare,I.base,I.loc,I.cell,I.free,I.freeC,I.pin,I.hok,I.len⟩
theorem SP.N8 {D:Ends}{f:Flow}{s':Shared}(h:SP (X.Q5 E) pins D f s'):SP X pins D f s':=by
 cases f with
 | next=>refine l6 (h) fun σ' H' I q=>?_; exact ⟨σ',H',I.N8,q⟩
 | brk=>refine l6 (h) fun σ' H' I q=>?_; exact ⟨σ',H',I.N8,q⟩
 | cont=>refine l6 (h) fun σ' H' I q=>?_; exact ⟨σ',H',I.N8,q⟩
 | ret u=>refine E5 (h) fun v σ' H' I r q=>?_; exact ⟨v,σ',H',I.N8,r,q⟩
theorem PSs.nox {st:List Stmt}{t:TS}(h:PSs X.nox st t):PSs X st t:=fun pins s σ H D I hw=>
 wpAny_mono (h pins s σ H D (I.Q5 _) hw) (fun _ _ q=>q.N8) fun _ _ z=>False.elim z
end
section
variable {X:Cx}{st:Stmt}{rest:List Stmt}{t u:TS}{e:Expr}{te:TE}{pos:Pos}
noncomputable def b71:TS:=fun D σ H=>D.nx σ H
noncomputable def b9f (t u:TS):TS:=fun D σ H=>t { D with nx:=u D } σ H
theorem b4K:PSs X [] b71:=fun _ _ σ H _ I h=>wpAny_execs_nil ⟨σ,H,I,h⟩
theorem b3l (h1:PS X st t)(h2:PSs X rest u):PSs X (st::rest) (b9f t u):=by
 intro pins s σ H D I h
 refine wpAny_execs_cons (E6 (h1 pins s σ H { D with nx:=u D } I h) fun f s1 q=>?_)
 cases f with
 | next=>
  refine l6 (q) fun σ' H' I' q=>?_
  exact h2 pins s1 σ' H' D I' q
 | ret v=>exact q
 | brk=>exact q
 | cont=>exact q
theorem b35 (h1:PS X st t):PSs X [st] t:=by
 intro pins s σ H D I h
 refine wpAny_execs_cons (E6 (h1 pins s σ H D I h) fun f s1 q=>?_)
 cases f with
 | next=>exact wpAny_execs_nil q
 | ret v=>exact q
 | brk=>exact q
 | cont=>exact q
theorem Inv.quiet {pins:List (Addr×Obj)}{σ:St}{H:Hp}{s:Shared}(I:Inv X pins σ H s):interactive X.env=false:=by simp [interactive,I.ok.kind]
noncomputable def b7R (te:TE):TS:=fun D σ H=>te σ H fun _ H1=>D.nx σ H1
theorem b4D (he:PE X e te)(hs:autoParam (swapsWith e none pos.line X.env=pure false) m6._auto_1):PS X (.Expr e pos) (b7R te):=by
 intro pins s σ H D I h
 exact wpAny_Expr_any (E6 (he pins s σ H _ I h) fun v s1 Z9=>i9 Z9 fun x H1 I1 r1 q1=>⟨σ,H1,I1,q1⟩) I.quiet hs
noncomputable def b9R (te:TE):TS:=fun D σ H=>te σ H D.rt
theorem b6P (he:PE X e te):PS X (.Return (some e) pos) (b9R te):=by
 intro pins s σ H D I h
 exact wpAny_Return_some (E6 (he pins s σ H _ I h) fun v s1 Z9=>i9 Z9 fun x H1 I1 r1 q1=>⟨x,σ,H1,I1,r1,q1⟩)
noncomputable def b85 (c:TT)(t u:TS):TS:=fun D σ H=>c σ H fun b H1=>if b=true then t D σ H1 else u D σ H1
theorem b8w {c:Expr}{a b:List Stmt}{tc:TT}(hc:PT X c tc)(ha:PSs X a t)(hb:PSs X b u):PS X (.If c a b pos) (b85 tc t u):=by
 intro pins s σ H D I h
 refine wpAny_If (E6 (hc pins s σ H _ I h) fun d s1 Z9=>c6 Z9 fun H1 I1 q1=>?_)
 cases d with
 | true=>exact ha pins s1 σ H1 D I1 q1
 | false=>exact hb pins s1 σ H1 D I1 q1
noncomputable def b58:TS:=fun _ _ _=>False
theorem b1y:PS X st b58:=fun _ _ _ _ _ _ h=>h.elim
end
noncomputable abbrev TG:=V→St→Hp→(St→Hp→Prop)→Prop
noncomputable def PG (X:Cx)(target:Expr)(t:TG):Prop:=
 ∀ (pins:List (Addr×Obj)) (s:Shared) (σ:St) (H:Hp) (v:V) (u:Value) (Q:St→Hp→Prop),Inv X pins σ H s→RelV v u→t v σ H Q→
  wpAny (model X.prog X.w) X.A (assign target X.env u) (fun _ s'=>∃ σ' H',Inv X pins σ' H' s'∧Q σ' H') X.xe s
noncomputable abbrev b4G:=V→V→V→Hp→(Hp→Prop)→Prop
noncomputable def a8L (X:Cx)(t:b4G):Prop:=
 ∀ (pins:List (Addr×Obj)) (s:Shared) (σ:St) (H:Hp) (o i v:V) (ov iv u:Value) (Q:Hp→Prop),Inv X pins σ H s→RelV o ov→RelV i iv→RelV v u→t o i v H Q→
  wpAny (model X.prog X.w) X.A (setItem ov iv u) (fun _ s'=>∃ H',Inv X pins σ H' s'∧Q H') X.xe s
noncomputable abbrev TIp:=V→V→Hp→VK→Prop
noncomputable def PIp (X:Cx)(op:Operator)(t:TIp):Prop:=
 ∀ (pins:List (Addr×Obj)) (s:Shared) (σ:St) (H:Hp) (x y:V) (v u:Value) (Q:VK),Inv X pins σ H s→RelV x v→RelV y u→t x y H Q→
  wpAny (model X.prog X.w) X.A (inplaceOp op v u) (EP X pins σ Q) X.xe s
section
variable {X:Cx}{pos:Pos}
noncomputable def a27 (i:Nat):TG:=fun v σ H Q=>Q (σ.set i (some v)) H
theorem a6B {i:Nat}{x:Str}(hN:X.N.Nodup)(hi:X.N[i]?=some x)(hx:Loc X.env.scope x)(hf:autoParam (X.fn x=true∨X.env.scope.names.lookup x=some .local) au0._auto_1):PG X (.Name x pos) (a27 i):=by
 intro pins s σ H v u Q I r h
 exact wpAny_assign_Name (a4B I hN hi hx r (fun s' I'=>⟨_,H,I',h⟩) hf)
noncomputable def b9l (to ti:TE)(t:b4G):TG:=fun v σ H Q=>to σ H fun o H1=>ti σ H1 fun i H2=>t o i v H2 fun H3=>Q σ H3
theorem b6S {o i:Expr}{to ti:TE}{t:b4G}(ho:PE X o to)(hi:PE X i ti)(hs:a8L X t)
  (ha:autoParam (∀ v,assign (.Subscript o i pos) X.env v=(do
   let ov ← holding [v] (eval o X.env)
   let iv ← holding [v,ov] (eval i X.env)
   standAt pos
   holding [v,ov,iv] (setItem ov iv v)
   release [v,ov,iv] [])) au4._auto_1):PG X (.Subscript o i pos) (b9l to ti t):=by
 intro pins s σ H v u Q I r h
 rw [ha]
 refine wpAny_bind (wpAny_holding (E6 (ho pins s σ H _ I h) fun ov s1 Z9=>i9 Z9 fun x H1 I1 r1 q1=>?_))
 refine wpAny_bind (wpAny_holding (E6 (hi pins s1 σ H1 _ I1 q1) fun iv s2 Z9=>i9 Z9 fun y H2 I2 r2 q2=>?_))
 refine wpAny_bind (wpAny_standAt (wpAny_bind (wpAny_holding (E6 (hs pins s2 σ H2 x y v ov iv u _ I2 r1 r2 r q2) fun _ s3 Z9=>c6 Z9 fun H3 I3 q3=>?_))))
 exact wpAny_release ⟨σ,H3,I3,q3⟩
noncomputable def b3B (te:TE)(g:TG):TS:=fun D σ H=>te σ H fun x H1=>g x σ H1 D.nx
theorem b5x {tg e:Expr}{te:TE}{g:TG}(he:PE X e te)(hg:PG X tg g)(hs:autoParam (swapsWithSole [tg] e pos.line X.env=pure false) m6._auto_1)(hw:autoParam (swappedStores [tg] e X.env=pure none) m6._auto_1)
  (h1:autoParam ((assignEach [tg] X.env).map (·.2)=[assign tg X.env]) m6._auto_1):PS X (.Assign [tg] e pos) (b3B te g):=by
 intro pins s σ H D I h
 refine wpAny_Assign_stores (E6 (he pins s σ H _ I h) fun v s1 Z9=>i9 Z9 fun x H1 I1 r1 q1=>?_) hs hw
 rw [h1]
 exact E6 (hg pins s1 σ H1 x v _ I1 r1 q1) fun _ s2 q=>q
theorem b1K {i:Nat}{x:Str}{e:Expr}{te:TE}{pos':Pos}(hN:X.N.Nodup)(hi:X.N[i]?=some x)(hx:Loc X.env.scope x)(he:PE X e te)(hs:autoParam (swapsWith e (some (.Name x pos')) pos.line X.env=pure false) m6._auto_1)(hf:autoParam (X.fn x=true∨X.env.scope.names.lookup x=some .local) au0._auto_1):
  PS X (.Assign [.Name x pos'] e pos) (b3B te (a27 i)):=by
 intro pins s σ H D I h
 refine wpAny_Assign_Name (E6 (he pins s σ H _ I h) fun v s1 Z9=>i9 Z9 fun y H1 I1 r1 q1=>?_) hs
 exact a4B I1 hN hi hx r1 (fun s2 I2=>⟨_,H1,I2,q1⟩) hf
noncomputable def b82 (i:Nat)(te:TE)(ti:TIp):TS:=fun D σ H=>∃ x,σ[i]?=some (some x)∧te σ H fun y H1=>ti x y H1 fun z H2=>D.nx (σ.set i (some z)) H2
theorem b5G {i:Nat}{x:Str}{e:Expr}{te:TE}{op:Operator}{ti:TIp}{pos':Pos}(hN:X.N.Nodup)(hi:X.N[i]?=some x)(hx:Loc X.env.scope x)(he:PE X e te)(ho:PIp X op ti)(hf:autoParam (X.fn x=true∨X.env.scope.names.lookup x=some .local) au0._auto_1):
  PS X (.AugAssign (.Name x pos') op e pos) (b82 i te ti):=by
 intro pins s σ H D I h
 refine c6 (h) fun v e1 h=>?_
 refine c6 (I.loc) fun m hn hl=>?_
 have vis:Vis X.env.scope x:=by rcases hx with k | k; exact .inl k; exact .inr (.inl k)
 refine c6 (hl i x v hi e1 vis) fun u r l=>?_
 refine wpAny_AugAssign_Name ?_
 have go:wpAny (model X.prog X.w) X.A (eval e X.env) (fun w s₂=>wpAny (model X.prog X.w) X.A (inplaceOp op u w) (fun r s₃=>wpAny (model X.prog X.w) X.A (storeName X.env x r) (fun _=>SP X pins D .next) X.xe s₃) X.xe s₂) X.xe s:=by
  refine E6 (he pins s σ H _ I h) fun w s1 Z0=>i9 (Z0) fun y H1 I1 r1 q1=>?_
  refine E6 (ho pins s1 σ H1 v y u w _ I1 r r1 q1) fun z s2 Z0=>i9 (Z0) fun zv H2 I2 r2 q2=>?_
  exact a4B I2 hN hi hx r2 (fun s3 I3=>⟨_,H2,I3,q2⟩) hf
 rcases l with ⟨hk,hm⟩ | ⟨hk,c,hc,hcell⟩
 ·exact wpAny_loadName_local I.ok.kind hk hn hm go
 ·refine Or.elim (hk) (fun hk=>?_) fun hk=>?_
  ·exact wpAny_loadName_cell I.ok.kind hk hc hcell go
  ·refine Or.elim (hx) (fun k=>?_) fun k=>?_
   ·have:X.env.scope.names.lookup x=some .free:=hk
    rw [k] at this; cases this
   ·have:X.env.scope.names.lookup x=some .free:=hk
    rw [k] at this; cases this
noncomputable def ipI (f:Int→Int→Int):TIp:=fun x y H Q=>∃ i j,x=.int i∧y=.int j∧Q (.int (f i j)) H
theorem b6n:PIp X .Add (ipI fun i j=>i + j):=by
 intro pins s σ H x y v u Q I r1 r2 h
 refine i9 (h) fun i j e1 e2 q=>?_
 subst e1; subst e2
 refine g8 (r1) fun t Z1=>?_; subst Z1
 refine g8 (r2) fun t' Z1=>?_; subst Z1
 exact iadd_int ⟨.int _,H,I.tok _,⟨_,rfl⟩,q⟩
end
section
variable {X:Cx}{pos:Pos}
noncomputable def b62 (c:TT)(tb:TS):TS:=fun D σ H=>∃ W:Nat→St→Hp→Prop,(∃ m,W m σ H)∧∀ m σ H,W m σ H→
 c σ H fun b H1=>if b=true then ∃ N:St→Hp→Prop,(∀ σ' H',N σ' H'→∃ m',m' < m∧W m' σ' H')∧tb { D with nx:=N,ct:=N,bk:=D.nx } σ H1 else D.nx σ H1
theorem b2A {c:Expr}{body:List Stmt}{tc:TT}{tb:TS}(hp:PassesOwn (model X.prog X.w) X.A X.env X.xe)(hc:PT X c tc)(hb:PSs X body tb):PS X (.While c body [] pos) (b62 tc tb):=by
 intro pins s σ H D I h
 refine c6 (h) fun W Z1 turn=>?_; refine g8 (Z1) fun m0 w0=>?_
 refine wpAny_While (codeAny_whileLoop (fun n s'=>∃ σ' H',Inv X pins σ' H' s'∧W n σ' H') ?_ m0 ⟨σ,H,I,w0⟩)
 rintro n s1 ⟨σ1,H1,I1,w1⟩
 refine wpAny_passesOwn hp (E6 (hc pins s1 σ1 H1 _ I1 (turn n σ1 H1 w1)) fun b s2 Z9=>c6 Z9 fun H2 I2 q2=>?_)
 cases b with
 | true=>
  refine c6 (q2) fun N hN q2=>?_
  rw [if_pos rfl]
  refine wpAny_passesOwn hp (E6 (hb pins s2 σ1 H2 _ I2 q2) fun f s3 q3=>?_)
  cases f with
  | next=>
   refine l6 (q3) fun σ3 H3 I3 n3=>?_
   refine c6 (hN σ3 H3 n3) fun m' hm w3=>?_
   exact ⟨m',hm,σ3,H3,I3,w3⟩
  | cont=>
   refine l6 (q3) fun σ3 H3 I3 n3=>?_
   refine c6 (hN σ3 H3 n3) fun m' hm w3=>?_
   exact ⟨m',hm,σ3,H3,I3,w3⟩
  | brk=>exact q3
  | ret v=>exact q3
 | false=>
  rw [if_neg Bool.false_ne_true]
  exact wpAny_execs_nil ⟨σ1,H2,I2,q2⟩
end
structure It where
 go:Nat→Hp→Prop
 yld:Nat→Hp→V→Hp→Prop
 stop:Nat→Hp→Prop
noncomputable def a39 (X:Cx)(pins:List (Addr×Obj))(H:Hp)(b:Addr):Prop:=
 H b=none∧b≠X.env.locals∧b∉X.fs∧(b∈X.ex∨X.s₀.heap.objs.size≤b)∧(∀ x c,X.env.cells.lookup x=some c→c≠b)∧∀ p∈X.pn++pins,p.1≠b
theorem Inv.b2W {X:Cx}{pins:List (Addr×Obj)}{σ:St}{H H':Hp}{s:Shared}{b:Addr}(I:Inv X pins σ H s)(hb:s.heap.objs.size≤b)(hn:H' b=none):a39 X pins H' b:=by
 refine ⟨hn,Nat.ne_of_gt (Nat.lt_of_lt_of_le I.lt hb),I.b6T hb,.inr (Nat.le_trans I.sz hb),fun x c e z=>?_,fun p hp z=>?_⟩
 ·refine g8 (I.cell x c e) fun v q=>?_
  exact absurd (Nat.lt_of_lt_of_le q.lt (by rw [z]; exact hb)) (Nat.lt_irrefl _)
 ·exact absurd (Nat.lt_of_lt_of_le (Heap.lt_size (I.pin p hp).1) (by rw [z]; exact hb)) (Nat.lt_irrefl _)
structure Turn (P:Program) (w:World) (K:PySem.W.Frag) (tg:Expr) (J:It) (fp:List Addr) (it:Addr) (tn:Nat→Heap→Prop):Prop where
 mem:it∈fp
 obj:∀ i h,tn i h→∀ b∈fp,∃ o,h.get? b=some o∧∀ v,o.data≠.cell v
 keep:∀ i h h',tn i h→(∀ b∈fp,∀ o,h.get? b=some o→h'.get? b=some o)→tn i h'
 item:∀ (X:Cx),X.prog=P→X.w=w→X.K=K→X.calm=true→∀ (i:Nat) (pins:List (Addr×Obj)) (s:Shared) (σ:St) (H:Hp) (E:Value→Shared→Prop),Inv X pins σ H s→(∀ b∈fp,a39 X pins H b)→tn i s.heap→J.go i H→
  wpAny (model P w) X.A (pyNext (.ref it)) (fun r s1=>∃ u,r=some u∧
   wpAny (model P w) X.A (letOwnedTupleGo tg (.ref it) u) (fun _ s2=>∃ x H',Inv X pins σ H' s2∧RelV x u∧J.yld i H x H'∧tn (i + 1) s2.heap∧∀ b∈fp,H' b=none) E s1) E s
 done:∀ (X:Cx),X.prog=P→X.w=w→X.K=K→X.calm=true→∀ (i:Nat) (pins:List (Addr×Obj)) (s:Shared) (σ:St) (H:Hp) (E:Value→Shared→Prop),Inv X pins σ H s→(∀ b∈fp,a39 X pins H b)→tn i s.heap→J.stop i H→
  wpAny (model P w) X.A (pyNext (.ref it)) (fun r s1=>r=none∧Inv X pins σ H s1) E s
 self:∀ (A:Around) (i:Nat) (s:Shared) (Q:Value→Shared→Prop) (E:Value→Shared→Prop),tn i s.heap→Q (.ref it) s→wpAny (model P w) A (pyIter (.ref it)) Q E s
noncomputable abbrev TI:=St→Hp→(It→Hp→Prop)→Prop
noncomputable def PIE (X:Cx)(pins:List (Addr×Obj))(σ:St)(tg:Expr)(R:It→Hp→Prop)(itv:Value)(s2:Shared):Prop:=
 ∃ (it:Addr) (fp:List Addr) (tn:Nat→Heap→Prop) (J:It) (H':Hp),itv=.ref it∧Inv X pins σ H' s2∧Turn X.prog X.w X.K tg J fp it tn∧tn 0 s2.heap∧(∀ b∈fp,a39 X pins H' b)∧R J H'
noncomputable def PI (X:Cx)(tg iter:Expr)(wi:TI):Prop:=
 ∀ (pins:List (Addr×Obj)) (s:Shared) (σ:St) (H:Hp) (R:It→Hp→Prop),Inv X pins σ H s→wi σ H R→
  wpAny (model X.prog X.w) X.A (eval iter X.env) (fun v s1=>wpAny (model X.prog X.w) X.A (pyIter v) (PIE X pins σ tg R) X.xe s1) X.xe s
theorem a35 {M:Model}{A:Around}{E:Value→Shared→Prop}{s:Shared}{tg:Expr}{it:Addr}{u:Value}{o:Obj}{n:String}{vs:Array Value}{Q:Unit→Shared→Prop}(ho:s.heap.get? it=some o)(hc:o.cls=.type n)(hd:o.data=.fields vs)
    (hn:["enumerate","zip","dict_itemiterator","dict_reverseitemiterator","odict_iterator","itertools.zip_longest","itertools.pairwise"].contains n=false) (hQ:Q () s):wpAny M A (letOwnedTupleGo tg (.ref it) u) Q E s:=by
  unfold letOwnedTupleGo
  cases tg <;> first
    | exact wpAny_pure hQ
    | (cases u <;> first
        | exact wpAny_pure hQ
        | (refine wpAny_bind (wpAny_load ho ?_)
           rw [hc,hd]
           show wpAny M A (if (["enumerate","zip","dict_itemiterator","dict_reverseitemiterator","odict_iterator","itertools.zip_longest","itertools.pairwise"].contains n && vs[0]? == some (rawInt _))=true then _ else _) Q E s
           rw [if_neg (by intro h; rw [hn,Bool.false_and] at h; cases h)]
           exact wpAny_pure hQ))
noncomputable def Itl (K:PySem.W.Frag)(a:Addr):It:=
 ⟨fun i H=>∃ xs x,L5 K H a xs∧xs[i]?=some x,fun i H x H'=>H'=H∧∀ xs,L5 K H a xs→xs[i]?=some x,fun i H=>∃ xs,L5 K H a xs∧xs.length≤i⟩
noncomputable def Itt (K:PySem.W.Frag)(a:Addr):It:=
 ⟨fun i H=>∃ xs x,Y8 K H a xs∧xs[i]?=some x,fun i H x H'=>H'=H∧∀ xs,Y8 K H a xs→xs[i]?=some x,fun i H=>∃ xs,Y8 K H a xs∧xs.length≤i⟩
noncomputable def Itr (lo:Int)(n:Nat):It:=⟨fun i _=>i < n,fun i H x H'=>H'=H∧x=.int (lo + i),fun i _=>n≤i⟩
theorem b0f {P:Program}{w:World}{K:PySem.W.Frag}{tg:Expr}(a it:Addr):Turn P w K tg (Itl K a) [it] it (fun i h=>h.IsListIter it a i) where
 mem:=by simp
 obj:=fun i h st b hb=>by
  have e:b=it:=by simpa using hb
  subst e
  refine j7 (st) fun o e c d=>?_
  exact ⟨o,e,fun v z=>by rw [d] at z; cases z⟩
 keep:=fun i h h' st k=>st.at fun o e=>k it (by simp) o e
 item:=by
  intro X hP hw hK hc i pins s σ H E I hf st hg
  subst hP hw hK
  refine l6 (hg) fun xs x hq hx=>?_
  refine j7 (I.list hq) fun its rv p hz=>?_
  refine c6 (rv.get hx) fun u hu ru=>?_
  refine P0 (hf it (by simp)) fun f0 f1 f2 f3 f4 f5=>?_
  refine wpAny_pyNext_list_item st p.isList (x:=u) (by simpa using hu) fun h' st' sb=>?_
  have I1:Inv X pins σ H { s with heap:=h' }:=I.turned (t':=s.toks) (fun b o hb e=>(sb.2 b hb).trans e) f0 f1 f3 f4 f5
  refine j7 (id st') fun o e c d=>?_
  exact ⟨u,rfl,a35 (s:={ s with heap:=h' }) e c d (by decide) ⟨x,H,I1,ru,⟨rfl,fun ys hy=>by rw [I.a1W hy hq]; exact hx⟩,st',fun b hb=>(hf b hb).1⟩⟩
 done:=by
  intro X hP hw hK hc i pins s σ H E I hf st hg
  subst hP hw hK
  refine c6 (hg) fun xs hq hx=>?_
  refine j7 (I.list hq) fun its rv p hz=>?_
  refine P0 (hf it (by simp)) fun f0 f1 f2 f3 f4 f5=>?_
  have hl:=rv.length
  exact wpAny_pyNext_list_end (I.ok.hd hc) st p.isList (by simp; omega) fun h' eb=>⟨rfl,I.turned (t':=s.toks) (fun b o hb e=>eb b o hb e) f0 f1 f3 f4 f5⟩
 self:=fun _ _ _ _ _ st h=>wpAny_pyIter_listiter st h
theorem a74 {P:Program}{w:World}{K:PySem.W.Frag}{tg:Expr}(a it:Addr):Turn P w K tg (Itt K a) [it] it (fun i h=>h.IsTupleIter it a i) where
 mem:=by simp
 obj:=fun i h st b hb=>by
  have e:b=it:=by simpa using hb
  subst e
  refine j7 (st) fun o e c d=>?_
  exact ⟨o,e,fun v z=>by rw [d] at z; cases z⟩
 keep:=fun i h h' st k=>st.at fun o e=>k it (by simp) o e
 item:=by
  intro X hP hw hK hc i pins s σ H E I hf st hg
  subst hP hw hK
  refine l6 (hg) fun xs x hq hx=>?_
  refine j7 (I.tuple hq) fun its rv p hz=>?_
  refine c6 (rv.get hx) fun u hu ru=>?_
  refine P0 (hf it (by simp)) fun f0 f1 f2 f3 f4 f5=>?_
  refine wpAny_pyNext_tuple_item st (show s.heap.IsTuple a its.toArray from p) (x:=u) (by simpa using hu) fun h' st' sb=>?_
  have I1:Inv X pins σ H { s with heap:=h' }:=I.turned (t':=s.toks) (fun b o hb e=>(sb.2 b hb).trans e) f0 f1 f3 f4 f5
  refine j7 (id st') fun o e c d=>?_
  exact ⟨u,rfl,a35 (s:={ s with heap:=h' }) e c d (by decide) ⟨x,H,I1,ru,⟨rfl,fun ys hy=>by rw [I.a2R hy hq]; exact hx⟩,st',fun b hb=>(hf b hb).1⟩⟩
 done:=by
  intro X hP hw hK hc i pins s σ H E I hf st hg
  subst hP hw hK
  refine c6 (hg) fun xs hq hx=>?_
  refine j7 (I.tuple hq) fun its rv p hz=>?_
  refine P0 (hf it (by simp)) fun f0 f1 f2 f3 f4 f5=>?_
  have hl:=rv.length
  exact wpAny_pyNext_tuple_end (I.ok.hd hc) st (show s.heap.IsTuple a its.toArray from p) (by simp; omega) fun h' eb=>⟨rfl,I.turned (t':=s.toks) (fun b o hb e=>eb b o hb e) f0 f1 f3 f4 f5⟩
 self:=fun _ _ _ _ _ st h=>wpAny_pyIter_tupleiter st h
theorem a8P {P:Program}{w:World}{K:PySem.W.Frag}{tg:Expr}(it:Addr)(lo:Int)(n:Nat):Turn P w K tg (Itr lo n) [it] it (fun i h=>IsRangeIter h it (lo + (i:Nat) * 1) ((n:Int) - (i:Nat)) 1) where
 mem:=by simp
 obj:=fun i h st b hb=>by
  have e:b=it:=by simpa using hb
  subst e
  exact ⟨_,st,fun v z=>by
   have z':Data.fields _=Data.cell v:=z
   cases z'⟩
 keep:=fun i h h' st k=>k it (by simp) _ st
 item:=by
  intro X hP hw hK hc i pins s σ H E I hf st hg
  subst hP hw hK
  refine P0 (hf it (by simp)) fun f0 f1 f2 f3 f4 f5=>?_
  have W:=Walks.range (prog:=X.prog) (w:=X.w) (I.ok.hd hc) it lo 1 n
  refine W.item i s _ _ hg st fun v h' tk hv st' kk=>?_
  refine g8 (hv) fun t Z1=>?_; subst Z1
  have I1:Inv X pins σ H { s with heap:=h',toks:=tk }:=I.turned (fun b o hb e=>kk b o (by simpa using hb) e) f0 f1 f3 f4 f5
  refine ⟨_,rfl,a35 (s:={ s with heap:=h',toks:=tk }) (n:="range_iterator") st' rfl rfl (by decide) ⟨.int (lo + i),H,I1,⟨t,?_⟩,⟨rfl,rfl⟩,st',fun b hb=>(hf b hb).1⟩⟩
  rw [Int.mul_one]
 done:=by
  intro X hP hw hK hc i pins s σ H E I hf st hg
  subst hP hw hK
  refine P0 (hf it (by simp)) fun f0 f1 f2 f3 f4 f5=>?_
  exact wpAny_pyNext_range_end (I.ok.hd hc) st (by have:n≤i:=hg; omega) fun h' eb=>⟨rfl,I.turned (t':=s.toks) (fun b o hb e=>eb b o hb e) f0 f1 f3 f4 f5⟩
 self:=fun _ _ _ _ _ st h=>wpAny_pyIter_rangeiter st h
end L2
namespace L2
open PySem PySem.Spec PyProof.Rows
section
variable {X:Cx}{tg:Expr}
theorem a7N {pins:List (Addr×Obj)}{σ:St}{H:Hp}{s:Shared}{R:It→Hp→Prop}{E:Value→Shared→Prop}{lo hi:Int}{t u v:Tok}{tk:Nat}(I:Inv X pins σ H s)(h1:-(2 ^ 62)≤lo)(h2:lo < 2 ^ 62)(h3:-(2 ^ 62)≤hi)(h4:hi < 2 ^ 62)
  (q:R (Itr lo (hi - lo).toNat) H):wpAny (model X.prog X.w) X.A (pyIter (.ref s.heap.objs.size)) (PIE X pins σ tg R) E { s with heap:=s.heap.push { cls:=.type "range",data:=.fields #[.int lo t,.int hi u,.int 1 v] },toks:=tk }:=by
 refine wpAny_pyIter_range (IsRange.new ..) (small_one h1 h2 h3 h4) ?_
 have I1:Inv X pins σ H { s with heap:=s.heap.push { cls:=.type "range",data:=.fields #[.int lo t,.int hi u,.int 1 v] },toks:=tk }:=I.kept fun b o e=>Heap.get?_push_of_some _ e
 refine ⟨(s.heap.push { cls:=.type "range",data:=.fields #[.int lo t,.int hi u,.int 1 v] }).objs.size,[(s.heap.push { cls:=.type "range",data:=.fields #[.int lo t,.int hi u,.int 1 v] }).objs.size],_,_,H,rfl,
  I1.kept (t':=tk) fun b o e=>Heap.get?_push_of_some _ e,a8P _ lo (hi - lo).toNat,?_,fun b hb=>?_,q⟩
 ·have e1:lo + ((0:Nat):Int) * 1=lo:=by simp
  have e2:(((hi - lo).toNat:Nat):Int) - ((0:Nat):Int)=Builtin.Range.rangeSize lo hi 1:=by rw [rangeSize_one]; split <;> omega
  show IsRangeIter _ _ (lo + ((0:Nat):Int) * 1) ((((hi - lo).toNat:Nat):Int) - ((0:Nat):Int)) 1
  rw [e1,e2]
  exact Heap.get?_push_size _ rfl
 ·have e:b=(s.heap.push { cls:=.type "range",data:=.fields #[.int lo t,.int hi u,.int 1 v] }).objs.size:=by simpa using hb
  subst e
  exact I1.b2W (Nat.le_refl _) (I1.hok.fresh (Nat.le_refl _))
noncomputable def b7O (ta:TA):TI:=fun σ H R=>ta σ H fun vs H1=>∃ j:Int,vs=[.int j]∧-(2 ^ 62)≤j∧j < 2 ^ 62∧R (Itr 0 j.toNat) H1
noncomputable def b8I (ta:TA):TI:=fun σ H R=>ta σ H fun vs H1=>∃ i j:Int,vs=[.int i,.int j]∧(-(2 ^ 62)≤i∧i < 2 ^ 62∧-(2 ^ 62)≤j∧j < 2 ^ 62)∧R (Itr i (j - i).toNat) H1
theorem a92 {a:Expr}{ta:TA}{p pos:Pos}(hg:Gl X "range") (hm:X.mg "range"=none) (ha:PA X [a] ta) (hs:autoParam (starEach [a] X.env=[(false,eval a X.env)]) m6._auto_1):PI X tg (.Call (.Name "range" p) [a] [] pos) (b7O ta):=by
 intro pins s σ H R I h
 refine Call_ (V3 I hg hm boot_range (PyProof.Rows.callWith_type1 (E6 (ha pos pins s σ H _ I h) fun us s1 Z9=>i9 Z9 fun vs H1 I1 r1 q1=>?_) hs rfl))
 obtain ⟨j,e,q1,q2,q⟩:=q1
 subst e
 cases r1 with
 | cons r rr=>
  cases rr
  obtain ⟨t,rfl⟩:=r
  exact call_range_1 (a7N I1 (by omega) (by omega) q1 q2 (by simpa using q))
theorem b0L {a b:Expr}{ta:TA}{p pos:Pos}(hg:Gl X "range") (hm:X.mg "range"=none) (ha:PA X [a,b] ta) (hs:autoParam (starEach [a,b] X.env=[(false,eval a X.env),(false,eval b X.env)]) m6._auto_1) (hs2:autoParam (starEach [b] X.env=[(false,eval b X.env)]) m6._auto_1):
  PI X tg (.Call (.Name "range" p) [a,b] [] pos) (b8I ta):=by
 intro pins s σ H R I h
 refine Call_ (V3 I hg hm boot_range (PyProof.Rows.callWith_type1 (E6 (ha pos pins s σ H _ I h) fun us s1 Z9=>i9 Z9 fun vs H1 I1 r1 q1=>?_) (by rw [hs,hs2]) (by rw [hs2]; rfl)))
 obtain ⟨i,j,e,⟨q1,q2,q3,q4⟩,q⟩:=q1
 subst e
 cases r1 with
 | cons r rr=>
  cases rr with
  | cons r' rr=>
   cases rr
   obtain ⟨t,rfl⟩:=r
   obtain ⟨t',rfl⟩:=r'
   exact call_range_2 (a7N I1 q1 q2 q3 q4 q)
noncomputable def b9c (wi:TI)(g:TG)(tb:TS):TS:=fun D σ H=>wi σ H fun J H1=>∃ W:Nat→Nat→St→Hp→Prop,(∃ m,W 0 m σ H1)∧∀ i m σ H,W i m σ H→
 (J.stop i H∧D.nx σ H)∨(J.go i H∧∃ N:St→Hp→Prop,(∀ σ' H',N σ' H'→∃ m',m' < m∧W (i + 1) m' σ' H')∧∀ x H',J.yld i H x H'→g x σ H' fun σ2 H2=>tb { D with nx:=N,ct:=N,bk:=D.nx } σ2 H2)
noncomputable def a34 (fp:List Addr)(h:Heap):List (Addr×Obj):=fp.filterMap fun b=>(h.get? b).map fun o=>(b,o)
theorem a0o {fp:List Addr}{h:Heap}{b:Addr}{o:Obj}(hb:b∈fp)(e:h.get? b=some o):(b,o)∈a34 fp h:=List.mem_filterMap.mpr ⟨b,hb,by rw [e]; rfl⟩
theorem b0g {fp:List Addr}{h:Heap}{p:Addr×Obj}(hp:p∈a34 fp h):p.1∈fp∧h.get? p.1=some p.2:=by
 refine c6 (List.mem_filterMap.mp hp) fun b hb e=>?_
 cases q:h.get? b with
 | none=>rw [q] at e; cases e
 | some o=>
  rw [q] at e
  have e':(b,o)=p:=Option.some.inj e
  subst e'
  exact ⟨hb,q⟩
theorem Inv.pinned {pins:List (Addr×Obj)}{σ:St}{H:Hp}{s:Shared}{fp:List Addr}(I:Inv X pins σ H s)(hf:∀ b∈fp,a39 X pins H b)(ho:∀ b∈fp,∃ o,s.heap.get? b=some o∧∀ v,o.data≠.cell v):Inv X (pins++a34 fp s.heap) σ H s:=
 I.a2s fun p hp=>(List.mem_append.mp hp).elim (fun z=>I.pin p (List.mem_append_right _ z)) fun z=>by
  refine f9 (b0g z) fun hb e=>?_
  refine a1w (hf p.1 hb) fun f0 f1 f2 _=>?_
  refine c6 (ho p.1 hb) fun o e' d=>?_
  rw [e] at e'; cases e'
  exact ⟨e,f0,f1,f2,d⟩
theorem Inv.a1Y {pins pl:List (Addr×Obj)}{σ:St}{H:Hp}{s:Shared}(I:Inv X (pins++pl) σ H s):Inv X pins σ H s:=I.a2s fun p hp=>I.pin p (List.mem_append_right _ (List.mem_append_left _ hp))
theorem b6t {iter:Expr}{body:List Stmt}{wi:TI}{g:TG}{tb:TS}{pos:Pos}(hp:PassesOwn (model X.prog X.w) X.A X.env X.xe)(hc:X.calm=true)(hi:PI X tg iter wi)(hg:PG X tg g)(hb:PSs X body tb)
  (hs:autoParam (∀ x,foldedSetIterable iter X.env x=pure x) au4._auto_1):PS X (.For tg iter body [] pos) (b9c wi g tb):=by
 intro pins s σ H D I h
 refine wpAny_For (E6 (hi pins s σ H _ I h) fun v s1 h1=>E6 h1 fun itv s2 h2=>?_) hs
 refine a5p (h2) fun it fp tn J H2 e I2 T st2 f2 Z9=>c6 Z9 fun W Z1 turn=>?_; refine g8 (Z1) fun m0 w0=>?_
 subst e
 
 have stat:∀ {H':Hp},(∀ b∈fp,H' b=none)→∀ b∈fp,a39 X pins H' b:=fun hn b hb=>⟨hn b hb,(f2 b hb).2⟩
 refine codeAny_forLoop_any (fun n s'=>∃ i σ' H',Inv X pins σ' H' s'∧tn i s'.heap∧(∀ b∈fp,H' b=none)∧W i n σ' H') ?_ m0 ⟨0,σ,H2,I2,st2,fun b hb=>(f2 b hb).1,w0⟩
 rintro n s3 ⟨i,σ3,H3,I3,st3,fr3,w3⟩
 rcases turn i n σ3 H3 w3 with ⟨stop,qn⟩ | ⟨go,N,hN,step⟩
 ·refine wpAny_passesOwn hp (E6 (T.done X rfl rfl rfl hc i pins s3 σ3 H3 X.xe I3 (stat fr3) st3 stop) fun r s4 Z9=>f9 Z9 fun hr I4=>?_)
  subst hr
  exact wpAny_execs_nil ⟨σ3,H3,I4,qn⟩
 ·refine wpAny_passesOwn hp (E6 (T.item X rfl rfl rfl hc i pins s3 σ3 H3 X.xe I3 (stat fr3) st3 go) fun r s4 Z9=>c6 Z9 fun u hr h4=>?_)
  subst hr
  refine wpAny_passesOwn hp (E6 h4 fun _ s5 Z9=>a9w Z9 fun x H5 I5 r5 y5 st5 fr5=>?_)
  have I5':=I5.pinned (stat fr5) (T.obj _ _ st5)
  refine wpAny_passesOwn hp (E6 (hg _ s5 σ3 H5 x u _ I5' r5 (step x H5 y5)) fun _ s6 Z9=>l6 Z9 fun σ6 H6 I6 q6=>?_)
  refine wpAny_passesOwn hp (E6 (hb _ s6 σ6 H6 _ I6 q6) fun f s7 q7=>?_)
  have again:∀ {σ7:St} {H7:Hp},Inv X (pins++a34 fp s5.heap) σ7 H7 s7→N σ7 H7→∃ m,m < n∧∃ i σ' H',Inv X pins σ' H' s7∧tn i s7.heap∧(∀ b∈fp,H' b=none)∧W i m σ' H':=fun {σ7 H7} I7 n7=>by
   refine c6 (hN σ7 H7 n7) fun m' hm w7=>?_
   refine ⟨m',hm,i + 1,σ7,H7,I7.a1Y,T.keep _ _ _ st5 fun b hb o e=>(I7.pin (b,o) (List.mem_append_right _ (List.mem_append_right _ (a0o hb e)))).1,fun b hb=>?_,w7⟩
   refine c6 (T.obj _ _ st5 b hb) fun o e d=>?_
   exact (I7.pin (b,o) (List.mem_append_right _ (List.mem_append_right _ (a0o hb e)))).2.1
  cases f with
  | next=>refine l6 (q7) fun σ7 H7 I7 n7=>?_; exact again I7 n7
  | cont=>refine l6 (q7) fun σ7 H7 I7 n7=>?_; exact again I7 n7
  | brk=>refine l6 (q7) fun σ7 H7 I7 q7=>?_; exact ⟨σ7,H7,I7.a1Y,q7⟩
  | ret v=>refine E5 (q7) fun x7 σ7 H7 I7 r7 q7=>?_; exact ⟨x7,σ7,H7,I7.a1Y,r7,q7⟩
end
end L2
namespace L2
open PySem PySem.Spec PyProof.Rows
noncomputable abbrev R2:=V→V→Hp→VK→Prop
noncomputable def OpR (X:Cx)(f:Value→Value→Sem Value)(r:R2):Prop:=
 ∀ (pins:List (Addr×Obj)) (s:Shared) (σ:St) (H:Hp) (x y:V) (v u:Value) (Q:VK),Inv X pins σ H s→RelV x v→RelV y u→r x y H Q→
  wpAny (model X.prog X.w) X.A (f v u) (EP X pins σ Q) X.xe s
noncomputable def UnR (X:Cx)(f:Value→Sem Value)(r:V→Hp→VK→Prop):Prop:=
 ∀ (pins:List (Addr×Obj)) (s:Shared) (σ:St) (H:Hp) (x:V) (v:Value) (Q:VK),Inv X pins σ H s→RelV x v→r x H Q→
  wpAny (model X.prog X.w) X.A (f v) (EP X pins σ Q) X.xe s
noncomputable def F8 (X:Cx)(f:Value)(r:List V→Hp→VK→Prop):Prop:=
 ∀ (pins:List (Addr×Obj)) (s:Shared) (σ:St) (H:Hp) (xs:List V) (us:List Value) (Q:VK),Inv X pins σ H s→Vals xs us→r xs H Q→
  wpAny (model X.prog X.w) X.A (call f us) (EP X pins σ Q) X.xe s
noncomputable def b9A (X:Cx)(r:V→Hp→(Bool→Hp→Prop)→Prop):Prop:=
 ∀ (pins:List (Addr×Obj)) (s:Shared) (σ:St) (H:Hp) (x:V) (v:Value) (Q:Bool→Hp→Prop),Inv X pins σ H s→RelV x v→r x H Q→
  wpAny (model X.prog X.w) X.A (truthy v) (TP X pins σ Q) X.xe s
noncomputable def tOp (r:R2)(ta tb:TE):TE:=fun σ H Q=>ta σ H fun x H1=>tb σ H1 fun y H2=>r x y H2 Q
noncomputable def tUn (r:V→Hp→VK→Prop)(ta:TE):TE:=fun σ H Q=>ta σ H fun x H1=>r x H1 Q
noncomputable def rI (C:Int→Int→Prop)(g:Int→Int→V):R2:=fun x y H Q=>∃ i j,x=.int i∧y=.int j∧C i j∧Q (g i j) H
noncomputable def rI0 (g:Int→Int→V):R2:=fun x y H Q=>∃ i j,x=.int i∧y=.int j∧Q (g i j) H
noncomputable def rU (g:Int→V):V→Hp→VK→Prop:=fun x H Q=>∃ i,x=.int i∧Q (g i) H
section
variable {X:Cx}{a b c:Expr}{ta tb tc:TE}{pos:Pos}
theorem b5M (ha:PE X a ta)(hb:PE X b tb){pins:List (Addr×Obj)}{s:Shared}{σ:St}{H:Hp}{R:V→V→Hp→Prop}(I:Inv X pins σ H s)
  (h:ta σ H fun x H1=>tb σ H1 fun y H2=>R x y H2) {Q:Value→Shared→Prop} {f:Value→Value→Sem Value}
  (hf:∀ v u s2 x y H2,Inv X pins σ H2 s2→RelV x v→RelV y u→R x y H2→wpAny (model X.prog X.w) X.A (f v u) Q X.xe s2):
  wpAny (model X.prog X.w) X.A (eval a X.env) (fun v s₁=>wpAny (model X.prog X.w) X.A (eval b X.env) (fun u s₂=>wpAny (model X.prog X.w) X.A (f v u) Q X.xe s₂) X.xe s₁) X.xe s:=by
 refine E6 (ha pins s σ H _ I h) fun v s1 Z0=>i9 (Z0) fun x H1 I1 r1 q1=>?_
 refine E6 (hb pins s1 σ H1 _ I1 q1) fun u s2 Z0=>i9 (Z0) fun y H2 I2 r2 q2=>?_
 exact hf v u s2 x y H2 I2 r1 r2 q2
theorem b7n {op:Operator}{r:R2}(ho:OpR X (binaryOp op) r)(ha:PE X a ta)(hb:PE X b tb):PE X (.BinOp a op b pos) (tOp r ta tb):=by
 intro pins s σ H Q I h
 exact wpAny_BinOp (b5M ha hb I h fun v u s2 x y H2 I2 rx ry q=>ho pins s2 σ H2 x y v u Q I2 rx ry q)
theorem b8y {op:UnaryOp}{r:V→Hp→VK→Prop}(ho:UnR X (unaryOp op) r)(ha:PE X a ta):PE X (.UnaryOp op a pos) (tUn r ta):=by
 intro pins s σ H Q I h
 exact UnaryOp_ (E6 (ha pins s σ H _ I h) fun v s1 Z9=>i9 Z9 fun x H1 I1 r1 q1=>ho pins s1 σ H1 x v Q I1 r1 q1)
theorem opI {f:Value→Value→Sem Value}{C:Int→Int→Prop}{g:Int→Int→Int}
  (rule:∀ (i j:Int) (t u:Tok) (s:Shared) (Q:Value→Shared→Prop) (E:Value→Shared→Prop),C i j→Q (.int (g i j) s.toks) { s with toks:=s.toks + 1 }→wpAny (model X.prog X.w) X.A (f (.int i t) (.int j u)) Q E s):
  OpR X f (rI C fun i j=>.int (g i j)):=by
 intro pins s σ H x y v u Q I rx ry h
 refine R8 (h) fun i j Z1 Z2 hc q=>?_; subst Z1; subst Z2
 refine g8 (rx) fun t Z1=>?_; subst Z1
 refine g8 (ry) fun t' Z1=>?_; subst Z1
 exact rule i j t t' s _ _ hc ⟨.int (g i j),H,I.tok _,⟨_,rfl⟩,q⟩
theorem b7s {f:Value→Value→Sem Value}{g:Int→Int→Int}
  (rule:∀ (i j:Int) (t u:Tok) (s:Shared) (Q:Value→Shared→Prop) (E:Value→Shared→Prop),Q (.int (g i j) s.toks) { s with toks:=s.toks + 1 }→wpAny (model X.prog X.w) X.A (f (.int i t) (.int j u)) Q E s):
  OpR X f (rI0 fun i j=>.int (g i j)):=by
 intro pins s σ H x y v u Q I rx ry h
 refine i9 (h) fun i j Z1 Z2 q=>?_; subst Z1; subst Z2
 refine g8 (rx) fun t Z1=>?_; subst Z1
 refine g8 (ry) fun t' Z1=>?_; subst Z1
 exact rule i j t t' s _ _ ⟨.int (g i j),H,I.tok _,⟨_,rfl⟩,q⟩
theorem b6H {f:Value→Value→Sem Value}{g:Int→Int→Bool}
  (rule:∀ (i j:Int) (t u:Tok) (s:Shared) (Q:Value→Shared→Prop) (E:Value→Shared→Prop),Q (.bool (g i j)) s→wpAny (model X.prog X.w) X.A (f (.int i t) (.int j u)) Q E s):
  OpR X f (rI0 fun i j=>.bl (g i j)):=by
 intro pins s σ H x y v u Q I rx ry h
 refine i9 (h) fun i j Z1 Z2 q=>?_; subst Z1; subst Z2
 refine g8 (rx) fun t Z1=>?_; subst Z1
 refine g8 (ry) fun t' Z1=>?_; subst Z1
 exact rule i j t t' s _ _ ⟨.bl (g i j),H,I,rfl,q⟩
noncomputable def b0y (i j:Int):Prop:=0 < j∧j < 1073741824
noncomputable def a60 (i j:Int):Prop:=(-(2 ^ 64) < i∧i < 2 ^ 64)∨(-(2 ^ 64) < j∧j < 2 ^ 64)
theorem a60.ok {i j:Int}(h:a60 i j):IntMulOk i j:=by
 refine Or.elim (h) (fun Z0=>f9 (Z0) fun h1 h2=>?_) fun Z1=>f9 (Z1) fun h1 h2=>?_
 ·exact .of_left (intBits_le_64 h1 h2)
 ·exact .of_right (intBits_le_64 h1 h2)
theorem b6r:OpR X (binaryOp .Add) (rI0 fun i j=>.int (i + j)):=b7s fun _ _ _ _ _ _ _ q=>add_int q
theorem b6z:OpR X (binaryOp .Sub) (rI0 fun i j=>.int (i - j)):=b7s fun _ _ _ _ _ _ _ q=>sub_int q
theorem b6p:OpR X (binaryOp .Mult) (rI a60 fun i j=>.int (i * j)):=opI fun _ _ _ _ _ _ _ hc q=>mul_int q hc.ok
theorem b3D:OpR X (binaryOp .FloorDiv) (rI b0y fun i j=>.int (i / j)):=opI fun i j _ _ _ _ _ hc q=>by
 have h1:(0:Int) < j:=hc.1
 have h2:j < 1073741824:=hc.2
 exact floordiv_int (by omega) (by rw [Int.fdiv_eq_ediv_of_nonneg i (by omega)]; exact q) (.inl (PyProof.noPylong_small (by omega)))
theorem b6R:OpR X (binaryOp .Mod) (rI (fun _ j=>0 < j) fun i j=>.int (i % j)):=opI fun i j _ _ _ _ _ hc q=>by
 have h1:(0:Int) < j:=hc
 exact mod_int' (by omega) (by rw [Int.fmod_eq_emod_of_nonneg i (by omega)]; exact q)
theorem unI {f:Value→Sem Value}{g:Int→Int}
  (rule:∀ (i:Int) (t:Tok) (s:Shared) (Q:Value→Shared→Prop) (E:Value→Shared→Prop),Q (.int (g i) s.toks) { s with toks:=s.toks + 1 }→wpAny (model X.prog X.w) X.A (f (.int i t)) Q E s):
  UnR X f (rU fun i=>.int (g i)):=by
 intro pins s σ H x v Q I rx h
 refine c6 (h) fun i Z1 q=>?_; subst Z1
 refine g8 (rx) fun t Z1=>?_; subst Z1
 exact rule i t s _ _ ⟨.int (g i),H,I.tok _,⟨_,rfl⟩,q⟩
theorem b57:UnR X (unaryOp .USub) (rU fun i=>.int (-i)):=unI fun _ _ _ _ _ q=>neg_int q
end
section
variable {X:Cx}{a b c:Expr}{ta tb tc:TE}{pos:Pos}
theorem a4J {pins:List (Addr×Obj)}{σ:St}{H:Hp}{s:Shared}{Q:VK}{k k':Bool}(I:Inv X pins σ H s)(q:Q (.bl k) H)(e:k=k'):EP X pins σ Q (.bool k') s:=by
 subst e
 exact ⟨.bl k,H,I,rfl,q⟩
theorem b8s:OpR X (compareOp .Lt) (rI0 fun i j=>.bl (decide (i < j))):=b6H fun _ _ _ _ _ _ _ q=>lt_int q
theorem b8H:OpR X (compareOp .LtE) (rI0 fun i j=>.bl (decide (i≤j))):=b6H fun _ _ _ _ _ _ _ q=>le_int q
theorem b5m:OpR X (compareOp .Gt) (rI0 fun i j=>.bl (decide (j < i))):=b6H fun _ _ _ _ _ _ _ q=>gt_int q
theorem a5S:OpR X (compareOp .In) (fun x y H Q=>∃ i j,x=.str i∧y=.str j∧Q (.bl (!(Builtin.Str.occurrences j i 0 j.length 1).isEmpty)) H):=by
 intro pins s σ H x y v u Q I rx ry h
 refine i9 (h) fun i j Z1 Z2 q=>?_; subst Z1; subst Z2
 refine g8 (rx) fun t Z1=>?_; subst Z1
 refine g8 (ry) fun t' Z1=>?_; subst Z1
 exact in_str (a4J I q rfl)
theorem OpR.or {f:Value→Value→Sem Value}{r r':R2}(h:OpR X f r)(h':OpR X f r'):OpR X f (fun x y H Q=>r x y H Q∨r' x y H Q):=by
 intro pins s σ H x y v u Q I rx ry q
 refine Or.elim (q) (fun q=>?_) fun q=>?_
 ·exact h pins s σ H x y v u Q I rx ry q
 ·exact h' pins s σ H x y v u Q I rx ry q
theorem a1S (b:Expr){op:CmpOp}(h:autoParam (op≠.In) Y0._auto_1)(h2:autoParam (op≠.NotIn) Y0._auto_1):behindInMarks op b=false:=by
 have e1:(op == CmpOp.In)=false:=by cases op <;> first | rfl | exact absurd rfl h
 have e2:(op == CmpOp.NotIn)=false:=by cases op <;> first | rfl | exact absurd rfl h2
 cases b <;> simp [behindInMarks,e1,e2]
theorem b3U {op:CmpOp}{r:R2}(ho:OpR X (compareOp op) r)(ha:PE X a ta)(hb:PE X b tb)(hm:behindInMarks op b=false):PE X (.Compare a [op] [b] pos) (tOp r ta tb):=by
 intro pins s σ H Q I h
 exact wpAny_Compare1 (b5M ha hb I h fun v u s2 x y H2 I2 rx ry q=>ho pins s2 σ H2 x y v u Q I2 rx ry q) hm
noncomputable def b8j (t:TE):TT:=fun σ H Q=>t σ H fun x H'=>∃ k,x=.bl k∧Q k H'
theorem b4I {op:CmpOp}{r:R2}(ho:OpR X (compareOp op) r)(ha:PE X a ta)(hb:PE X b tb)(hm:behindInMarks op b=false):PT X (.Compare a [op] [b] pos) (b8j (tOp r ta tb)):=by
 intro pins s σ H Q I h
 refine wpAny_isTrue_Compare1 (E6 (ha pins s σ H _ I h) fun v s1 Z9=>i9 Z9 fun x H1 I1 r1 q1=>E6 (hb pins s1 σ H1 _ I1 q1) fun u s2 ⟨y,H2,I2,r2,q2⟩=>
  E6 (ho pins s2 σ H2 x y v u _ I2 r1 r2 q2) fun c s3 Z9=>i9 Z9 fun z H3 I3 r3 Z9=>c6 Z9 fun k e q3=>?_) hm
 subst e
 cases r3
 exact wpAny_truthy_bool ⟨H3,I3,q3⟩
noncomputable def b4x (K:PySem.W.Frag)(x:V)(H:Hp)(k:Bool):Prop:=
 match x with
 | .w6=>k=false
 | .bl b=>k=b
 | .int i=>k=(i != 0)
 | .str y=>y.length≤sizeLine∧k=((y.length:Int) != 0)
 | .byt y=>y.size≤sizeLine∧k=((y.size:Int) != 0)
 | .ref p=>(∃ xs,L5 K H p xs∧k=!xs.isEmpty)∨(∃ xs,Y8 K H p xs∧k=!xs.isEmpty)∨∃ kvs,H p=some (.dK kvs)∧k=!kvs.isEmpty
 | _=>False
theorem a8b {κ:Type}{kvs:List (κ×V)}{vs:List (κ×Value)}(r:KV kvs vs):(!vs.isEmpty)=!kvs.isEmpty:=by
 cases r <;> rfl
theorem a4l {xs:List V}{its:List Value}(r:Vals xs its):(!its.toArray.isEmpty)=!xs.isEmpty:=by
 cases r <;> simp
theorem a1R:(sizeLine:Nat) < 2 ^ 63:=by rw [sizeLine_eq]; decide
theorem b5S:b9A X (fun x H Q=>∃ k,b4x X.K x H k∧Q k H):=by
 intro pins s σ H x v Q I rx h
 refine c6 (h) fun k e q=>?_
 have hl:=a1R
 have hs:sizeLine=16777216:=sizeLine_eq
 cases x with
 | w6=>
  cases rx
  have e':k=false:=e
  subst e'
  exact truthy_none ⟨H,I,q⟩
 | bl b=>
  cases rx
  have e':k=b:=e
  subst e'
  exact wpAny_truthy_bool ⟨H,I,q⟩
 | int i=>
  refine g8 (rx) fun t Z1=>?_; subst Z1
  have e':k=(i != 0):=e
  subst e'
  exact PySem.P.truthy_int ⟨H,I,q⟩
 | str y=>
  refine g8 (rx) fun t Z1=>?_; subst Z1
  obtain ⟨hy,e'⟩:y.length≤sizeLine∧k=((y.length:Int) != 0):=e
  subst e'
  exact PySem.P.truthy_str (by omega) ⟨H,I.tok _,q⟩
 | byt y=>
  refine g8 (rx) fun t Z1=>?_; subst Z1
  obtain ⟨hy,e'⟩:y.size≤sizeLine∧k=((y.size:Int) != 0):=e
  subst e'
  exact PySem.W.truthy_bytes (by omega) ⟨H,I.tok _,q⟩
 | ref p=>
  cases rx
  have e':(∃ xs,L5 X.K H p xs∧k=!xs.isEmpty)∨(∃ xs,Y8 X.K H p xs∧k=!xs.isEmpty)∨∃ kvs,H p=some (.dK kvs)∧k=!kvs.isEmpty:=e
  refine Or.elim (e') (fun Z0=>c6 (Z0) fun xs hx e'=>?_) fun Z13=>Or.elim (Z13) (fun Z1=>c6 (Z1) fun xs hx e'=>?_) fun Z2=>c6 (Z2) fun kvs hx e'=>?_
  ·subst e'
   refine j7 (I.list hx) fun its r pl hz=>?_
   have hlen:=r.length
   exact wpAny_truthy_list pl.isList (by simp only [List.size_toArray]; omega) ⟨H,I.tok _,by rw [a4l r]; exact q⟩
  ·subst e'
   refine j7 (I.tuple hx) fun its r pl hz=>?_
   have hlen:=r.length
   exact truthy_tuple pl (by simp only [List.size_toArray]; omega) ⟨H,I.tok _,by rw [a4l r]; exact q⟩
  ·subst e'
   obtain ⟨hz,hS,vs,r,m⟩:kvs.length≤sizeLine∧(p == sysModules)=false∧∃ vs,KV kvs vs∧s.heap.DictOf (x8 X.prog X.w) p vs:=I.hok p _ hx
   have hlen:kvs.length=vs.length:=Paired.length r
   exact wpAny_truthy_dict hS m (by omega) ⟨H,I.tok _,by rw [a8b r]; exact q⟩
 | _=>exact (show False from e).elim
theorem b29 (ha:PE X a ta)(he:∀ whole,isTrue a X.env whole=(do let v ← whole; standAt a.pos; holding [v] (truthy v))):
  PT X a (fun σ H Q=>ta σ H fun x H'=>∃ k,b4x X.K x H' k∧Q k H'):=by
 intro pins s σ H Q I h
 exact isTrue_plain (E6 (ha pins s σ H _ I h) fun v s1 Z9=>i9 Z9 fun x H1 I1 r1 q1=>b5S pins s1 σ H1 x v Q I1 r1 q1) (he _)
theorem vals1 {x:V}{us:List Value}(r:Vals [x] us):∃ u,us=[u]∧RelV x u:=by
 cases r with
 | cons r1 r2=>cases r2; exact ⟨_,rfl,r1⟩
theorem b3b:F8 X (.builtin "abs") (fun xs H Q=>∃ i,xs=[.int i]∧Q (.int (if i < 0 then -i else i)) H):=by
 intro pins s σ H xs us Q I r h
 refine c6 (h) fun i Z1 q=>?_; subst Z1
 refine c6 (vals1 r) fun u Z1 Z9=>g8 Z9 fun t Z2=>?_; subst Z1; subst Z2
 exact call_abs_int fun u tk=>⟨.int (if i < 0 then -i else i),H,I.tok _,⟨_,rfl⟩,q⟩
end
end L2
namespace L2
open PySem PySem.Spec PyProof.Rows
structure a83 (h:Heap) (x dx C:Addr) (mA:Str→Option Value):Prop where
 obj:h.get? x=some (PySem.W.instObj C dx)
 ns:h.Ns1 dx mA
 ne:dx≠x
theorem b03 {h:Heap}{dx:Addr}{mA:Str→Option Value}(n:h.Ns1 dx mA):∃ od,h.get? dx=some od∧∀ name,PySem.W.lookIn name od=some (mA name):=by
 refine Y9 (n) fun o es ep ho hd hk _ hm=>?_
 refine ⟨o,ho,fun name=>?_⟩
 have e:=hm name
 unfold nsFind findBy at e
 rw [← Array.find?_toList] at e
 unfold PySem.W.lookIn
 rw [hd]
 dsimp only
 split
 ·rename_i y q
  rw [q] at e
  exact congrArg some e
 ·rename_i q
  rw [q] at e
  have a:es.toList.any (·.refKey)=false:=by
   rw [List.any_eq_false]
   intro y hy
   refine A6 (hk y (Array.mem_toList_iff.mp hy)) fun z t hkey=>?_
   simp [DictEntry.refKey,hkey]
  have a':¬ es.toList.any (·.refKey)=true:=by rw [a]; exact Bool.false_ne_true
  rw [if_neg a']
  exact congrArg some e
theorem a83.look {h:Heap}{x dx C:Addr}{mA:Str→Option Value}(I:a83 h x dx C mA):∃ od,PySem.W.InstAt h x (PySem.W.instObj C dx) C (some od)∧∀ name,PySem.W.lookIn name od=some (mA name):=
 let ⟨od,ho,hl⟩:=b03 I.ns
 ⟨od,⟨I.obj,rfl,rfl,ho⟩,hl⟩
section
variable {prog:Program}{w:World}{A:Around}{E:Value→Shared→Prop}{s:Shared}{K:PySem.W.Frag}{x dx C f:Addr}{mA:Str→Option Value}{name:Str}{v:Value}
theorem get_map {expr:Bool}{Q:Value→Shared→Prop}(X:K.In s.heap)(I:a83 s.heap x dx C mA)(hg:PySem.W.plainGet K C name=true)(hh:PySem.W.hasDictIn K C=true)
  (ha:PySem.W.findIn K (.ref C) name=some none) (hv:mA name=some v) (hv':PySem.W.handedIn v=true) (h:Q v { s with toks:=s.toks + 1 }):
  wpAny (model prog w) A (getAttr (.ref x) name expr) Q E s:=by
 refine c6 (I.look) fun od J hl=>?_
 exact PySem.W.get_value X J (PySem.W.plainGet_of hg).1 (PySem.W.findObj_own hh ha rfl (by rw [hl,hv])) hv' h
theorem b3r {pl:Sem Bool}{Q:Value×List Value→Shared→Prop}(X:K.In s.heap)(I:a83 s.heap x dx C mA)(hg:PySem.W.plainGet K C name=true)
  (hf:PySem.W.findIn K (.ref C) name=some (some (.ref f))) (ht:PySem.W.isFn K (.ref f)=true) (hv:mA name=none) (h:Q (.ref f,[.ref x]) s):
  wpAny (model prog w) A (getMethod (.ref x) name pl) Q E s:=by
 refine c6 (I.look) fun od J hl=>?_
 exact PySem.W.method_fn X J (PySem.W.plainGet_of hg).1 (PySem.W.plainGet_of hg).2 hf (beq_iff_eq.mp ht) (by show (PySem.W.lookIn name od).map (·.isSome)=some false; rw [hl,hv]; rfl) h
theorem b36 {ns:List Str}{Q:Unit→Shared→Prop}(X:K.In s.heap)(I:a83 s.heap x dx C mA)
  (hs:PySem.W.findIn K (.ref C) "__setattr__"=some (some (.builtin "object.__setattr__"))) (hp:PySem.W.plainOver K C=true) (ht:PySem.W.takerIn K C name=some none) (hh:PySem.W.hasDictIn K C=true)
  (hw:PySem.Within mA ns) (hsz:ns.length≤sizeLine)
  (h:∀ h',a83 h' x dx C (fun y=>if y=name then some v else mA y)→Heap.SameBut dx s.heap h'→Q () { s with heap:=h',toks:=s.toks + 2 }):
  wpAny (model prog w) A (setAttr (.ref x) name v) Q E s:=by
 refine c6 (I.look) fun od J hl=>?_
 refine PySem.W.set_plain X J hs (PySem.W.osa_open (s:={ s with toks:=s.toks + 1 }) (r:=none) X J hp ht fun b=>?_)
 refine c6 (PySem.W.any_some hh) fun cd hc hd'=>?_
 have hx:s.heap.get? x=some ⟨.ref C,some dx,.plain,#[]⟩:=I.obj
 refine wpAny_bind (wpAny_pure (wpAny_bind (wpAny_bind (wpAny_loadPart hx (wpAny_bind (PySem.W.Looks.here (s:={ s with toks:=s.toks + 1 }) (PySem.W.looks_clsIn X hc) ?_))))))
 rw [hd']
 refine wpAny_pure (a:=some dx) (wpAny_bind (wpAny_pure (wpAny_bind ?_)))
 refine wpAny_nsSet1 (s:={ s with toks:=s.toks + 1 }) I.ns fun h' hn2 hs2=>?_
 refine E5 (hn2.count (PySem.Within.cons name v hw)) fun oD esD epD hoD hdD hcD=>?_
 refine wpAny_bind (wpAny_lookBehind hoD (by rw [hdD]; exact pastItsLine_dict (Nat.le_trans hcD (by rw [List.length_cons]; omega))) ?_)
 exact wpAny_pure (h _ ⟨(hs2.2 _ (Ne.symm I.ne)).trans I.obj,hn2,I.ne⟩ hs2)
theorem b1e {R:Result→Shared→Prop}{vs:List Value}{kw:List (Str×Value)}(X:K.In s.heap)(hm:PySem.W.makesIn K C=true)
  (hi:PySem.W.findIn K (.ref C) "__init__"=some (some (.ref f))) (hf:PySem.W.typeIn K (.ref f)=some (.type "function"))
  (h:codeAny (model prog w) (A.under (.builtin "type.__call__" ⟨.ref C::vs,kw⟩)) (.call (.ref f) ⟨.ref (s.heap.objs.size + 1)::vs,kw⟩) (PySem.W.InitBack (s.heap.objs.size + 1) R)
   { s with heap:=(s.heap.push PySem.W.emptyDict).push (PySem.W.instObj C s.heap.objs.size) }):
  codeAny (model prog w) A (.call (.ref C) ⟨vs,kw⟩) R s:=by
 obtain ⟨hh,g,d,t,os⟩:=s
 exact PySem.W.make_core (PySem.W.makes_of X hm) (PySem.W.looks_findIn X hi) (fun self=>PySem.W.bind_fn X self hf) (.inl rfl) h
end
noncomputable def V9 (f:Str)(v:V):List (Str×V)→List (Str×V)
 | []=>[(f,v)]
 | (g,x)::r=>if g=f then (g,v)::r else (g,x)::V9 f v r
theorem X3 (f g:Str)(v:V):∀ fs:List (Str×V),(V9 f v fs).lookup g=if g=f then some v else fs.lookup g
 | []=>by
  show List.lookup g [(f,v)]=_
  by_cases h:g=f
  ·have hb:(g == f)=true:=beq_iff_eq.mpr h
   simp only [List.lookup,hb,if_pos h]
  ·have hb:(g == f)=false:=beq_eq_false_iff_ne.mpr h
   simp only [List.lookup,hb,if_neg h]
 | (k,x)::r=>by
  have ih:=X3 f g v r
  rw [show V9 f v ((k,x)::r)=(if k=f then (k,v)::r else (k,x)::V9 f v r) from rfl]
  by_cases hk:k=f
  ·rw [if_pos hk]
   by_cases h:g=k
   ·have hb:(g == k)=true:=beq_iff_eq.mpr h
    simp only [List.lookup,hb,if_pos (h.trans hk)]
   ·have hb:(g == k)=false:=beq_eq_false_iff_ne.mpr h
    simp only [List.lookup,hb,if_neg (fun e:g=f=>h (e.trans hk.symm))]
  ·rw [if_neg hk]
   by_cases h:g=k
   ·have hb:(g == k)=true:=beq_iff_eq.mpr h
    simp only [List.lookup,hb,if_neg (fun e:g=f=>hk (h.symm.trans e))]
   ·have hb:(g == k)=false:=beq_eq_false_iff_ne.mpr h
    simp only [List.lookup,hb]
    exact ih
theorem a2V (f:Str)(v:V):∀ fs:List (Str×V),f∈(V9 f v fs).map (·.1)∧∀ g,g∈fs.map (·.1)→g∈(V9 f v fs).map (·.1)
 | []=>⟨by simp [V9],fun g h=>by simp at h⟩
 | (k,x)::r=>by
  refine f9 (a2V f v r) fun i1 i2=>?_
  rw [show V9 f v ((k,x)::r)=(if k=f then (k,v)::r else (k,x)::V9 f v r) from rfl]
  by_cases hk:k=f
  ·rw [if_pos hk]
   subst hk
   exact ⟨by simp,fun g h=>by simpa using h⟩
  ·rw [if_neg hk]
   refine ⟨?_,fun g h=>?_⟩
   ·rw [List.map_cons]
    exact List.mem_cons_of_mem _ i1
   ·rw [List.map_cons] at h ⊢
    refine Or.elim (List.mem_cons.mp h) (fun e=>?_) fun e=>?_
    ·exact List.mem_cons.mpr (.inl e)
    ·exact List.mem_cons_of_mem _ (i2 g e)
theorem a3o (f:Str)(v:V):∀ fs:List (Str×V),(V9 f v fs).length≤fs.length + 1
 | []=>by simp [V9]
 | (k,x)::r=>by
  have ih:=a3o f v r
  rw [show V9 f v ((k,x)::r)=(if k=f then (k,v)::r else (k,x)::V9 f v r) from rfl]
  by_cases hk:k=f
  ·rw [if_pos hk,List.length_cons,List.length_cons]; omega
  ·rw [if_neg hk,List.length_cons,List.length_cons]; omega
theorem a0M.some_of {v:V}{o:Option Value}(r:a0M (some v) o):∃ u,o=some u∧RelV v u:=by
 cases o with
 | none=>exact (show False from r).elim
 | some u=>exact ⟨u,rfl,r⟩
theorem a0M.none_of {o:Option Value}(r:a0M none o):o=none:=by
 cases o with
 | none=>rfl
 | some u=>exact (show False from r).elim
theorem b0j {v:V}{u:Value}(r:RelV v u):PySem.W.handedIn u=true:=by
 cases v with
 | w6=>cases (show u=Value.none from r); rfl
 | bl b=>cases (show u=Value.bool b from r); rfl
 | int i=>refine g8 ((show ∃ t,u=Value.int i t from r)) fun t e=>?_; cases e; rfl
 | str x=>refine g8 ((show ∃ t,u=Value.str x t from r)) fun t e=>?_; cases e; rfl
 | byt b=>refine g8 ((show ∃ t,u=Value.bytes b t from r)) fun t e=>?_; cases e; rfl
 | flt b=>refine g8 ((show ∃ t,u=Value.float b t from r)) fun t e=>?_; cases e; rfl
 | ref a=>cases (show u=Value.ref a from r); rfl
 | ty n=>cases (show u=Value.type n from r); rfl
section
variable {P:Program}{w:World}{H H':Hp}{h h':Heap}{a C dx:Addr}{fs fs':List (Str×V)}
theorem a6K (hok:HOk P w H h)(e:H a=some (.ins C dx fs)):∃ mA,a83 h a dx C mA∧(∀ f,a0M (fs.lookup f) (mA f))∧PySem.Within mA (fs.map (·.1))∧fs.length≤1000∧H dx=some (.own a):=by
 refine a1t ((show D8 P w H h a (.ins C dx fs) from hok a _ e)) fun d z ne ob Z9=>j7 Z9 fun mA n r q=>?_
 exact ⟨mA,⟨ob,n,ne⟩,r,q,z,d⟩
end
structure Cls (K:PySem.W.Frag) (C:Addr):Prop where
 pg:PySem.W.plainGet K C Str.empty=true
 hd:PySem.W.hasDictIn K C=true
 po:PySem.W.plainOver K C=true
 sa:PySem.W.findIn K (.ref C) "__setattr__"=some (some (.builtin "object.__setattr__"))
theorem Cls.get {K:PySem.W.Frag}{C:Addr}(c:Cls K C)(f:Str):PySem.W.plainGet K C f=true:=c.pg
noncomputable def a0t (K:PySem.W.Frag)(C:Addr)(f:Str):Prop:=PySem.W.findIn K (.ref C) f=some none
theorem a0t.b8i {K:PySem.W.Frag}{C:Addr}{f:Str}(n:a0t K C f):PySem.W.takerIn K C f=some none:=by
 unfold PySem.W.takerIn
 rw [show PySem.W.findIn K (.ref C) f=some none from n]
 rfl
structure Meth (K:PySem.W.Frag) (C:Addr) (m:Str) (f:Addr):Prop where
 at_:PySem.W.findIn K (.ref C) m=some (some (.ref f))
 fn:PySem.W.isFn K (.ref f)=true
 kp:PySem.W.keepIn K (.ref f)=true
section
variable {X:Cx}{pins:List (Addr×Obj)}{σ:St}{H:Hp}{s:Shared}{a C dx:Addr}{fs:List (Str×V)}{f:Str}{v:V}{A:Around}{E:Value→Shared→Prop}
theorem a4S {b:Bool}{Q:Value→Shared→Prop}(I:Inv X pins σ H s)(e:H a=some (.ins C dx fs))(c:Cls X.K C)(n:a0t X.K C f)(l:fs.lookup f=some v)
  (h:∀ u s',Inv X pins σ H s'→RelV v u→Q u s'):wpAny (model X.prog X.w) A (getAttr (.ref a) f b) Q E s:=by
 refine x6 (a6K I.hok e) fun mA O r _ _ _=>?_
 refine c6 (a0M.some_of (v:=v) (o:=mA f) (by rw [← l]; exact r f)) fun u hu ru=>?_
 exact get_map I.kIn O (c.get f) c.hd n hu (b0j ru) (h u _ (I.tok _) ru)
theorem a8O {m:Str}{g:Addr}{pl:Sem Bool}{Q:Value×List Value→Shared→Prop}(I:Inv X pins σ H s)(e:H a=some (.ins C dx fs))(c:Cls X.K C)(k:Meth X.K C m g)(l:fs.lookup m=none)
  (h:Q (.ref g,[.ref a]) s):wpAny (model X.prog X.w) A (getMethod (.ref a) m pl) Q E s:=by
 refine x6 (a6K I.hok e) fun mA O r _ _ _=>?_
 have hn:mA m=none:=a0M.none_of (by rw [← l]; exact r m)
 exact b3r I.kIn O (c.get m) k.at_ k.fn hn h
theorem a4e {y:V}{u:Value}{Q:Unit→Shared→Prop}(I:Inv X pins σ H s)(e:H a=some (.ins C dx fs))(c:Cls X.K C)(n:a0t X.K C f)(hl:fs.length < 1000)(ry:RelV y u)
  (h:∀ s',Inv X pins σ (upd H a (.ins C dx (V9 f y fs))) s'→Q () s'):wpAny (model X.prog X.w) A (setAttr (.ref a) f u) Q E s:=by
 refine x6 (a6K I.hok e) fun mA O r wi _ ho=>?_
 have hz:(fs.map (·.1)).length≤sizeLine:=by rw [List.length_map,sizeLine_eq]; omega
 refine b36 I.kIn O c.sa c.po n.b8i c.hd wi hz fun h' O' sb=>h _ ?_
 have hd:∃ o,h'.get? dx=some o:=let ⟨o,_,_,e',_⟩:=O'.ns; ⟨o,e'⟩
 refine I.write (x:=a) (e:=dx) (by rw [e]; exact True.intro) (.inr ho) (fun b q hb z=>(sb.2 b hb).trans z) hd ?_
 refine ⟨by rw [j3 O.ne]; exact ho,?_,O.ne,O'.obj,_,O'.ns,fun g=>?_,fun g hg=>?_⟩
 ·have:=a3o f y fs; omega
 ·show a0M ((V9 f y fs).lookup g) (if g=f then some u else mA g)
  rw [X3]
  by_cases q:g=f
  ·rw [if_pos q,if_pos q]; exact ry
  ·rw [if_neg q,if_neg q]; exact r g
 ·by_cases q:g=f
  ·rw [q]; exact (a2V f y fs).1
  ·refine (a2V f y fs).2 g (wi g fun z=>hg ?_)
   show (if g=f then some u else mA g)=none
   rw [if_neg q]; exact z
theorem Inv.made (I:Inv X pins σ H s):Inv X pins σ (upd (upd H s.heap.objs.size (.own (s.heap.objs.size + 1))) (s.heap.objs.size + 1) (.ins C s.heap.objs.size []))
  { s with heap:=(s.heap.push PySem.W.emptyDict).push (PySem.W.instObj C s.heap.objs.size) }:=by
 have e1:(s.heap.push PySem.W.emptyDict).get? s.heap.objs.size=some PySem.W.emptyDict:=Heap.get?_push_size s.heap rfl
 have e2:((s.heap.push PySem.W.emptyDict).push (PySem.W.instObj C s.heap.objs.size)).get? (s.heap.objs.size + 1)=some (PySem.W.instObj C s.heap.objs.size):=by
  have:=Heap.get?_push_size (s.heap.push PySem.W.emptyDict) (o:=PySem.W.instObj C s.heap.objs.size) rfl
  rwa [Heap.size_push] at this
 have e3:(s.heap.push PySem.W.emptyDict).Ns s.heap.objs.size (fun _=>none):=⟨PySem.W.emptyDict,#[],_,e1,rfl,(fun e he=>absurd he (by simp)),fun _=>rfl⟩
 have I1:=I.laid (a:=s.heap.objs.size) (o:=.own (s.heap.objs.size + 1)) (h':=s.heap.push PySem.W.emptyDict) (t':=s.toks) (fun b u q=>Heap.get?_push_of_some _ q) (Nat.le_refl _) ⟨_,e1⟩
 refine I1.laid (a:=s.heap.objs.size + 1) (o:=.ins C s.heap.objs.size []) (t':=s.toks) (fun b u q=>Heap.get?_push_of_some _ q) (Nat.le_of_eq (Heap.size_push _ _)) ?_
 have ne:s.heap.objs.size≠s.heap.objs.size + 1:=Nat.ne_of_lt (Nat.lt_succ_self _)
 refine ⟨by rw [j3 ne,l9],Nat.zero_le _,ne,e2,fun _=>none,(Heap.Ns1.of_empty e3).at fun o q=>Heap.get?_push_of_some _ q,fun _=>True.intro,fun y hy=>absurd rfl hy⟩
theorem b38 {prog:Program}{w:World}{env:Env}{e:Expr}{f:Str}{pos:Pos}{s:Shared}{Q:Value→Shared→Prop}(hb:attributeBase e f env (eval e env)=eval e env)
  (h:wpAny (model prog w) A (eval e env) (fun o s₁=>wpAny (model prog w) A (getAttr o f true) Q E s₁) E s):wpAny (model prog w) A (eval (.Attribute e f pos) env) Q E s:=
 Attribute_any_ h (by rw [arm_eval_Attribute,hb])
end
noncomputable def b9L (K:PySem.W.Frag)(ta:TE)(f:Str):TE:=fun σ H Q=>ta σ H fun x H1=>∃ a C dx fs v,x=.ref a∧H1 a=some (.ins C dx fs)∧Cls K C∧a0t K C f∧fs.lookup f=some v∧Q v H1
noncomputable def b9H (K:PySem.W.Frag)(ta tv:TE)(f:Str):TS:=fun D σ H=>tv σ H fun y H1=>ta σ H1 fun x H2=>∃ a C dx fs,x=.ref a∧H2 a=some (.ins C dx fs)∧Cls K C∧a0t K C f∧fs.length < 1000∧
 D.nx σ (upd H2 a (.ins C dx (V9 f y fs)))
noncomputable def b7x (X:Cx)(op:Operator)(rd:V→V→Hp→VK→Prop):Prop:=
 ∀ (pins:List (Addr×Obj)) (s:Shared) (σ:St) (H:Hp) (x y:V) (u v:Value) (Q:VK),Inv X pins σ H s→RelV x u→RelV y v→rd x y H Q→wpAny (model X.prog X.w) X.A (inplaceOp op u v) (EP X pins σ Q) X.xe s
noncomputable def b4j (K:PySem.W.Frag)(ta tv:TE)(rd:V→V→Hp→VK→Prop)(f:Str):TS:=fun D σ H=>ta σ H fun x H1=>∃ a C dx fs v,x=.ref a∧H1 a=some (.ins C dx fs)∧Cls K C∧a0t K C f∧fs.lookup f=some v∧
 tv σ H1 fun y H2=>rd v y H2 fun z H3=>∃ dx' fs',H3 a=some (.ins C dx' fs')∧fs'.length < 1000∧D.nx σ (upd H3 a (.ins C dx' (V9 f z fs')))
section
variable {X:Cx}{o e value:Expr}{f:Str}{pos pos' tpos:Pos}{ta tv:TE}
theorem a8m (he:PE X e ta)(hb:attributeBase e f X.env (eval e X.env)=eval e X.env):PE X (.Attribute e f pos) (b9L X.K ta f):=by
 intro pins s σ H Q I h
 refine b38 hb (E6 (he pins s σ H _ I h) fun u s1 Z9=>i9 Z9 fun x H1 I1 rx Z9=>a5p Z9 fun a C dx fs v ex ea c n l q=>?_)
 subst ex
 obtain rfl:u=Value.ref a:=rx
 exact a4S I1 ea c n l fun u' s2 I2 ru=>⟨v,H1,I2,ru,q⟩
theorem b3n (ha:PE X o ta)(hv:PE X value tv)(hs:swapsWith value (some (.Attribute o f pos')) pos.line X.env=pure false):PS X (.Assign [.Attribute o f pos'] value pos) (b9H X.K ta tv f):=by
 intro pins s σ H D I h
 refine plainObj_wpAny_Assign_Attribute (E6 (hv pins s σ H _ I h) fun u s1 Z9=>i9 Z9 fun y H1 I1 ry q=>E6 (ha pins s1 σ H1 _ I1 q) fun ov s2 Z9=>i9 Z9 fun x H2 I2 rx Z9=>b5v Z9 fun a C dx fs ex ea c n l q2=>?_) hs
 subst ex
 obtain rfl:ov=Value.ref a:=rx
 exact a4e I2 ea c n l ry fun s3 I3=>⟨σ,_,I3,q2⟩
theorem b0n {op:Operator}{rd:V→V→Hp→VK→Prop}(ha:PE X o ta)(hv:PE X value tv)(hop:b7x X op rd):PS X (.AugAssign (.Attribute o f tpos) op value pos) (b4j X.K ta tv rd f):=by
 intro pins s σ H D I h
 refine wpAny_AugAssign_AttributeAny (E6 (ha pins s σ H _ I h) fun ov s1 Z9=>i9 Z9 fun x H1 I1 rx Z9=>a5p Z9 fun a C dx fs v ex ea c n l q=>?_)
 subst ex
 obtain rfl:ov=Value.ref a:=rx
 refine a4S I1 ea c n l fun u s2 I2 ru=>E6 (hv pins s2 σ H1 _ I2 q) fun w3 s3 Z9=>i9 Z9 fun y H2 I3 ry q3=>E6 (hop pins s3 σ H2 v y u w3 _ I3 ru ry q3) fun w4 s4 Z0=>i9 (Z0) fun z H3 I4 rz Z9=>i9 Z9 fun dx' fs' ea' l' q4=>?_
 exact a4e I4 ea' c n l' rz fun s5 I5=>⟨σ,_,I5,q4⟩
noncomputable def b9S:V→V→Hp→VK→Prop:=fun x y H Q=>∃ i j,x=.int i∧y=.int j∧Q (.int (i + j)) H
theorem b5K:b7x X .Add b9S:=by
 rintro pins s σ H x y u v Q I rx ry ⟨i,j,rfl,rfl,q⟩
 obtain ⟨t,rfl⟩:=(show ∃ t,u=Value.int i t from rx)
 obtain ⟨t',rfl⟩:=(show ∃ t',v=Value.int j t' from ry)
 exact PyProof.Rows.iadd_int ⟨.int (i + j),H,I.tok _,⟨_,rfl⟩,q⟩
end
end L2
namespace L2
open PySem PySem.Spec PyProof.Rows
structure K5 (k:Nat) (A:Around):Prop where
 hd:A.handled=none
 dp:A.depth + 3 * k + 5 < recursionLimit
 un:A.units + 16 * k + 200 < cLine
theorem K5.mono {j k:Nat}{A:Around}(r:K5 k A)(h:j≤k):K5 j A:=⟨r.hd,by have:=r.dp; omega,by have:=r.un; omega⟩
theorem K5.deeper {k:Nat}{A:Around}(r:K5 (k + 1) A)(env:Env):K5 k (A.deeper env):=
 ⟨r.hd,by have:=r.dp; show A.depth + 1 + 3 * k + 5 < _; omega,by have:=r.un; show A.units + 3 + 16 * k + 200 < _; omega⟩
theorem a86 {A:Around}{C:Addr}{us:List Value}{kw:List (Str×Value)}:(A.under (.builtin "type.__call__" ⟨.ref C::us,kw⟩)).depth=A.depth + 1:=by
 first | rfl | simp [Around.under,Code.weight,Code.isCreation,Code.isGuard,Code.isCaller,Code.frames,Code.isFrame,guardIds]
theorem a8B {A:Around}{C:Addr}{us:List Value}{kw:List (Str×Value)}:(A.under (.builtin "type.__call__" ⟨.ref C::us,kw⟩)).units=A.units + 1:=by
 first | rfl | simp [Around.under,Code.cUnits,Code.frames,Code.isFrame]
theorem K5.make {k:Nat}{A:Around}(r:K5 (k + 1) A)(C:Addr)(us:List Value)(kw:List (Str×Value)):K5 k (A.under (.builtin "type.__call__" ⟨.ref C::us,kw⟩)):=
 ⟨r.hd,by have:=r.dp; rw [a86]; omega,by have:=r.un; rw [a8B]; omega⟩
theorem K5.depth {k:Nat}{A:Around}(r:K5 k A):A.depth < recursionLimit:=by have:=r.dp; omega
theorem K5.units {k:Nat}{A:Around}(r:K5 k A):A.units + 64 < cLine:=by have:=r.un; omega
noncomputable def b9d:TA:=fun _ H Q=>Q [] H
noncomputable def b8l (ta:TE)(tr:TA):TA:=fun σ H Q=>ta σ H fun x H1=>tr σ H1 fun xs H2=>Q (x::xs) H2
section
variable {X:Cx}{e:Expr}{es:List Expr}{te:TE}{t:TA}{pos:Pos}
theorem b65:PA X [] b9d:=fun _ _ _ _ H Q I h=>Calls.spliced_nil ⟨[],H,I,.nil,h⟩
theorem b4g (ha:PE X e te)(hr:PA X es t)(hs:autoParam (starEach (e::es) X.env=(false,eval e X.env)::starEach es X.env) m6._auto_1):PA X (e::es) (b8l te t):=by
 intro pos pins s σ H Q I h
 rw [hs]
 show wpAny _ _ (spliced ((false,eval e X.env)::backTo pos (starEach es X.env))) _ _ s
 refine Calls.spliced_cons (E6 (ha pins s σ H _ I h) fun u s1 Z9=>i9 Z9 fun x H1 I1 r1 q1=>?_)
 exact E6 (hr pos pins s1 σ H1 _ I1 q1) fun us s2 Z9=>i9 Z9 fun xs H2 I2 r2 q2=>⟨x::xs,H2,I2,.cons r1 r2,q2⟩
noncomputable def b88 (t:TA):TE:=fun σ H Q=>t σ H fun xs H1=>xs.length≤sizeLine∧∀ p,H1 p=none→Q (.ref p) (upd H1 p (.tup xs))
noncomputable def b9z (t:TA):TE:=fun σ H Q=>t σ H fun xs H1=>xs.length≤sizeLine∧∀ p,H1 p=none→Q (.ref p) (upd H1 p (.lst xs))
theorem b5Z {x1}(h:PA X es t):PE X (.Tuple es x1 pos) (b88 t):=by
 intro pins s σ H Q I hq
 refine wpAny_Tuple_spliced (E6 (h pos pins s σ H _ I hq) fun us s1 Z9=>R8 Z9 fun xs H1 I1 r z q=>⟨by rw [← r.length]; exact z,?_⟩)
 have hf:H1 s1.heap.objs.size=none:=I1.hok.fresh (Nat.le_refl _)
 refine ⟨.ref s1.heap.objs.size,upd H1 s1.heap.objs.size (.tup xs),I1.laid (t':=s1.toks) (fun b u e=>Heap.get?_push_of_some _ e) (Nat.le_refl _) ?_,rfl,q _ hf⟩
 exact ⟨z,us,r,⟨_,Heap.get?_push_size _ rfl,rfl,_,rfl⟩⟩
theorem b51 (h:PA X es t):PE X (.List es pos) (b9z t):=by
 intro pins s σ H Q I hq
 refine wpAny_List_spliced (E6 (h pos pins s σ H _ I hq) fun us s1 Z9=>R8 Z9 fun xs H1 I1 r z q=>⟨by rw [← r.length]; exact z,?_⟩)
 have hf:H1 s1.heap.objs.size=none:=I1.hok.fresh (Nat.le_refl _)
 refine ⟨.ref s1.heap.objs.size,upd H1 s1.heap.objs.size (.lst xs),I1.laid (t':=s1.toks) (fun b u e=>Heap.get?_push_of_some _ e) (Nat.le_refl _) ?_,rfl,q _ hf⟩
 exact ⟨z,us,0,r,Heap.get?_push_size _ rfl⟩
end
noncomputable abbrev Sp:=List V→Hp→VK→XK→Prop
noncomputable abbrev CXT:=List Env→Hp→Shared→XK→Value→Shared→Prop
structure a6Z (P:Program) (w:World) (K:PySem.W.Frag) (mg:Str→Option Value) (base:Heap) (A:Around) (outer:List Env) (s:Shared) (H:Hp):Prop where
 frames:A.frames=some outer
 mod:Mod K mg base
 bs:∀ b o,base.get? b=some o→s.heap.get? b=some o∧H b=none
 bsz:base.objs.size≤s.heap.objs.size
 a18:s.heap.FunFrames base outer
 frf:∀ b∈frs outer,H b=none
 hok:HOk P w H s.heap
 bare:AllBare s.gens
noncomputable def CE (outer:List Env)(P:Program)(w:World)(H:Hp)(s:Shared)(Q:VK)(u:Value)(s':Shared):Prop:=
 ∃ v H',s'.os=s.os∧AllBare s'.gens∧Un (frs outer) [] H H' s.heap s'.heap∧HOk P w H' s'.heap∧RelV v u∧Q v H'
noncomputable def CR (CX:CXT)(outer:List Env)(P:Program)(w:World)(H:Hp)(s:Shared)(Q:VK)(E:XK)(r:Result)(s':Shared):Prop:=
 match r with
 | .ok (.ret u)=>CE outer P w H s Q u s'
 | .ok _=>False
 | .error e=>CX outer H s E e s'
structure B7 (P:Program) (w:World) (K:PySem.W.Frag) (mg:Str→Option Value) (base:Heap) (CX:CXT) (k:Nat) (f:Addr) (fd:FuncData) (ps:List Str) (sp:Sp):Prop where
 len:∀ vs H Q E,sp vs H Q E→vs.length=ps.length
 run:∀ (A:Around) (outer:List Env) (s:Shared) (H:Hp) (args:Args) (us:List Value) (vs:List V) (Q:VK) (E:XK),K5 k A→a6Z P w K mg base A outer s H→BindsTo s fd args (ps.zip us)→Vals vs us→sp vs H Q E→
  codeAny (model P w) A (.call (.ref f) args) (CR CX outer P w H s Q E) s
theorem B7.imp {P:Program}{w:World}{K:PySem.W.Frag}{mg:Str→Option Value}{base:Heap}{CX:CXT}{k:Nat}{f:Addr}{fd:FuncData}{ps:List Str}{sp sp':Sp}(F:B7 P w K mg base CX k f fd ps sp)
  (h:∀ vs H Q E,sp' vs H Q E→sp vs H Q E):B7 P w K mg base CX k f fd ps sp':=
 ⟨fun vs H Q E q=>F.len vs H Q E (h _ _ _ _ q),fun A outer s H args us vs Q E hr he hb hv hs=>F.run A outer s H args us vs Q E hr he hb hv (h _ _ _ _ hs)⟩
theorem a6Z.make {P:Program}{w:World}{K:PySem.W.Frag}{mg:Str→Option Value}{base:Heap}{A:Around}{outer:List Env}{s:Shared}{H:Hp}(e:a6Z P w K mg base A outer s H)(C:Addr)(us:List Value)(kw:List (Str×Value)):
  a6Z P w K mg base (A.under (.builtin "type.__call__" ⟨.ref C::us,kw⟩)) outer s H:=⟨by first | exact e.frames | (simpa [Around.under,Code.envs,Code.isFrame,pushEnvs] using e.frames),e.mod,e.bs,e.bsz,e.a18,e.frf,e.hok,e.bare⟩
section
variable {X:Cx}{pins:List (Addr×Obj)}{σ:St}{H:Hp}{s s':Shared}
theorem Inv.b74 (I:Inv X pins σ H s):a6Z X.prog X.w X.K X.mg X.base X.A X.stack s H:=
 ⟨I.ok.frames,I.ok.mod,I.bs,Nat.le_trans I.ok.bsz I.sz,I.stack,I.a9t,I.hok,I.bare⟩
theorem Inv.after {Q:VK}{u:Value}(I:Inv X pins σ H s)(h:CE X.stack X.prog X.w H s Q u s'):EP X pins σ Q u s':=by
 refine a9s (h) fun v H' os bare un hok r q=>?_
 obtain ⟨hh,g,d,t,os'⟩:=s'
 obtain rfl:os'=s.os:=os
 exact ⟨v,H',I.call (h':=hh) (g':=g) (d':=d) (t':=t) (ch:=[]) un hok bare (fun b z=>absurd z (by simp)),r,q⟩
end
noncomputable def b10 (sp:Sp)(dvs:List V)(E:XK)(t:TA):TE:=fun σ H Q=>t σ H fun vs H1=>sp (vs++dvs) H1 Q E
noncomputable def b49 (C:Addr)(m:Str)(sp:Sp)(dvs:List V)(E:XK)(ta:TE)(t:TA):TE:=fun σ H Q=>ta σ H fun x H1=>∃ a dx fs,x=.ref a∧H1 a=some (.ins C dx fs)∧fs.lookup m=none∧
 t σ H1 fun vs H2=>sp (x::(vs++dvs)) H2 Q E
noncomputable def b7G (C:Addr)(sp:Sp)(dvs:List V)(E:XK)(t:TA):TE:=fun σ H Q=>t σ H fun vs H1=>∀ x dx,H1 x=none→H1 dx=none→dx≠x→
 sp (.ref x::(vs++dvs)) (upd (upd H1 dx (.own x)) x (.ins C dx [])) (fun v H2=>v=.w6∧Q (.ref x) H2) E
noncomputable def Binds (K:PySem.W.Frag)(fd:FuncData)(ps:List Str)(ds:List Value):Prop:=
 ∀ (s:Shared) (us:List Value),K.In s.heap→(us++ds).length=ps.length→BindsTo s fd ⟨us,[]⟩ (ps.zip (us++ds))
theorem Binds.all {K:PySem.W.Frag}{fd:FuncData}{ps:List Str}(h:∀ us:List Value,us.length=ps.length→bindArgs fd ⟨us,[]⟩=pure (ps.zip us)):Binds K fd ps []:=fun s us _ hl=>by
 rw [List.append_nil] at hl ⊢
 exact .of_eq (h us hl)
noncomputable def Passes (CX:CXT)(X:Cx)(E:XK):Prop:=∀ (pins:List (Addr×Obj)) (σ:St) (H:Hp) (s:Shared) (e:Value) (s':Shared),Inv X pins σ H s→CX X.stack H s E e s'→X.xe e s'
section
variable {X:Cx}{CX:CXT}{k:Nat}{f C:Addr}{fd:FuncData}{ps:List Str}{sp:Sp}{dvs:List V}{ds:List Value}{E:XK}{x m:Str}{p pos apos:Pos}{e o:Expr}{es:List Expr}{ta:TE}{t:TA}
theorem b3p {pins:List (Addr×Obj)}{σ:St}{H:Hp}{s:Shared}{Q:VK}{us:List Value}{vs:List V}(F:B7 X.prog X.w X.K X.mg X.base CX k f fd ps sp)(hr:K5 k X.A)(hb:Binds X.K fd ps ds)(hd:Vals dvs ds)(hx:Passes CX X E)
  (I:Inv X pins σ H s) (r:Vals vs us) (h:sp (vs++dvs) H Q E):wpAny (model X.prog X.w) X.A (call (.ref f) us) (EP X pins σ Q) X.xe s:=by
 have r2:Vals (vs++dvs) (us++ds):=r.append hd
 have hl:(us++ds).length=ps.length:=by rw [← r2.length]; exact F.len _ _ _ _ h
 refine wpAny_call (codeAny_mono (F.run X.A X.stack s H ⟨us,[]⟩ (us++ds) (vs++dvs) Q E hr I.b74 (hb s us I.kIn hl) r2 h) fun r s' hq=>?_)
 cases r with
 | error e=>exact hx pins σ H s e s' I hq
 | ok fl=>
  cases fl with
  | ret u=>exact I.after hq
  | next=>exact False.elim hq
  | brk=>exact False.elim hq
  | cont=>exact False.elim hq
theorem b3x (F:B7 X.prog X.w X.K X.mg X.base CX k f fd ps sp)(hr:K5 k X.A)(hg:Gl X x)(hm:X.mg x=some (.ref f))(hk:PySem.W.keepIn X.K (.ref f)=true)(hb:Binds X.K fd ps ds)(hd:Vals dvs ds)(hx:Passes CX X E)
  (ha:PA X (e::es) t) (hdb:autoParam ((x == ("__debug__":Str))=false) Y0._auto_1) (he:autoParam (starEach (e::es) X.env=(false,eval e X.env)::starEach es X.env) m6._auto_1) (hpl:autoParam ((backTo pos (starEach es X.env)).any (·.1)=false) m6._auto_1):
  PE X (.Call (.Name x p) (e::es) [] pos) (b10 sp dvs E t):=by
 intro pins s σ H Q I h
 refine wpAny_Call_Name_kw (a6A I hg hm ?_ hdb)
 refine PySem.W.callWith_K (h₀:=X.base) I.ok.mod.kin hk (E6 (ha pos pins s σ H _ I h) fun us s1 Z9=>i9 Z9 fun vs H1 I1 r q=>⟨I1.kIn,?_⟩) he hpl
 exact b3p F hr hb hd hx I1 r q
theorem b4l {pl:Sem Bool}(he:PE X o ta)(c:Cls X.K C)(hm:Meth X.K C m f)(F:B7 X.prog X.w X.K X.mg X.base CX k f fd ps sp)(hr:K5 k X.A)(hb:Binds X.K fd ps ds)(hd:Vals dvs ds)(hx:Passes CX X E)(ha:PA X (e::es) t)
  (hst:autoParam (starEach (e::es) X.env=(false,eval e X.env)::starEach es X.env) m6._auto_1) (hpl:autoParam ((backTo pos (starEach es X.env)).any (·.1)=false) m6._auto_1)
  (ht:autoParam (eval (.Call (.Attribute o m apos) (e::es) [] pos) X.env=(do
   let ov ← eval o X.env
   standAt apos.atName
   let (f,first) ← holding [ov] (getMethod ov m pl)
   callWith pos f first (backTo pos (starEach (e::es) X.env)) (backToKw pos (keywordEach [] X.env)))) m6._auto_1):
  PE X (.Call (.Attribute o m apos) (e::es) [] pos) (b49 C m sp dvs E ta t):=by
 intro pins s σ H Q I h
 refine PySem.W.methodCall_KW (pl:=pl) (E6 (he pins s σ H _ I h) fun u s1 Z9=>i9 Z9 fun x H1 I1 rx Z9=>n6 Z9 fun a dx fs ex ea l q=>?_) ht
 subst ex
 obtain rfl:u=Value.ref a:=rx
 refine a8O I1 ea c hm l ?_
 refine PySem.W.callWith_K (first:=[.ref a]) (h₀:=X.base) I.ok.mod.kin hm.kp (E6 (ha pos pins s1 σ H1 _ I1 q) fun us s2 Z9=>i9 Z9 fun vs H2 I2 r q2=>⟨I2.kIn,?_⟩) hst hpl
 exact b3p (us:=.ref a::us) (vs:=.ref a::vs) F hr hb hd hx I2 (.cons rfl r) q2
structure Mk (K:PySem.W.Frag) (C f:Addr):Prop where
 makes:PySem.W.makesIn K C=true
 init:PySem.W.findIn K (.ref C) "__init__"=some (some (.ref f))
 fn:PySem.W.isFn K (.ref f)=true
 kp:PySem.W.keepIn K (.ref C)=true
theorem b27 {pins:List (Addr×Obj)}{σ:St}{H:Hp}{s:Shared}{Q:VK}{us:List Value}{vs:List V}(M:Mk X.K C f)(F:B7 X.prog X.w X.K X.mg X.base CX k f fd ps sp)(hr:K5 (k + 1) X.A)(hb:Binds X.K fd ps ds)(hd:Vals dvs ds)
  (hx:Passes CX X E) (I:Inv X pins σ H s) (r:Vals vs us)
  (h:∀ x dx,H x=none→H dx=none→dx≠x→sp (.ref x::(vs++dvs)) (upd (upd H dx (.own x)) x (.ins C dx [])) (fun v H2=>v=.w6∧Q (.ref x) H2) E):
  wpAny (model X.prog X.w) X.A (call (.ref C) us) (EP X pins σ Q) X.xe s:=by
 have hq:=h (s.heap.objs.size + 1) s.heap.objs.size (I.hok.fresh (Nat.le_succ _)) (I.hok.fresh (Nat.le_refl _)) (Nat.ne_of_lt (Nat.lt_succ_self _))
 have I2:=Inv.made (C:=C) I
 have r2:Vals (V.ref (s.heap.objs.size + 1)::(vs++dvs)) (Value.ref (s.heap.objs.size + 1)::(us++ds)):=.cons rfl (r.append hd)
 have hl:(Value.ref (s.heap.objs.size + 1)::us++ds).length=ps.length:=by
  have e:=r2.length
  rw [F.len _ _ _ _ hq] at e
  exact e.symm
 refine wpAny_call (b1e (f:=f) I.kIn M.makes M.init (beq_iff_eq.mp M.fn) (codeAny_mono (F.run _ X.stack _ _ ⟨Value.ref (s.heap.objs.size + 1)::us,[]⟩ (Value.ref (s.heap.objs.size + 1)::(us++ds)) _ _ E (hr.make C us [])
  (I2.b74.make C us []) (hb _ (Value.ref (s.heap.objs.size + 1)::us) I2.kIn hl) r2 hq) fun r s' hq'=>?_))
 cases r with
 | error e=>exact hx pins σ _ _ e s' I2 hq'
 | ok fl=>
  cases fl with
  | ret u=>
   refine R8 (I2.after hq') fun v H' I3 rv ev q3=>?_
   subst ev
   exact ⟨rv,⟨V.ref (s.heap.objs.size + 1),H',I3,rfl,q3⟩⟩
  | next=>exact False.elim hq'
  | brk=>exact False.elim hq'
  | cont=>exact False.elim hq'
theorem b3V (M:Mk X.K C f)(F:B7 X.prog X.w X.K X.mg X.base CX k f fd ps sp)(hr:K5 (k + 1) X.A)(hg:Gl X x)(hm:X.mg x=some (.ref C))(hb:Binds X.K fd ps ds)(hd:Vals dvs ds)(hx:Passes CX X E)
  (ha:PA X (e::es) t) (hdb:autoParam ((x == ("__debug__":Str))=false) Y0._auto_1) (he:autoParam (starEach (e::es) X.env=(false,eval e X.env)::starEach es X.env) m6._auto_1) (hpl:autoParam ((backTo pos (starEach es X.env)).any (·.1)=false) m6._auto_1):
  PE X (.Call (.Name x p) (e::es) [] pos) (b7G C sp dvs E t):=by
 intro pins s σ H Q I h
 refine wpAny_Call_Name_kw (a6A I hg hm ?_ hdb)
 refine PySem.W.callWith_K (h₀:=X.base) I.ok.mod.kin M.kp (E6 (ha pos pins s σ H _ I h) fun us s1 Z9=>i9 Z9 fun vs H1 I1 r q=>⟨I1.kIn,?_⟩) he hpl
 exact b27 M F hr hb hd hx I1 r q
end
structure v8 (N P:List Str) (sc:Scope):Prop where
 kind:sc.kind=.function
 co:sc.isCoroutine=false
 gen:sc.isGenerator=false
 nd:N.Nodup
 pre:N.take P.length=P
 par:∀ x∈P,sc.names.lookup x=some .local∨sc.names.lookup x=some .cell
 nofree:∀ y∈sc.names,y.2≠.free
theorem a5r {kindOf:Str→Option NameKind}{x:Str}:∀ {binds:List (Str×Value)} {m:Str→Option Value},(∀ v,(x,v)∉binds)→bindL kindOf binds m x=m x
 | [],_,_=>rfl
 | (n,v)::r,m,h=>by
  unfold bindL
  rw [a5r fun w hw=>h w (List.mem_cons_of_mem _ hw)]
  split
  ·have:x≠n:=by rintro rfl; exact h v List.mem_cons_self
   simp [this]
  ·rfl
theorem a5g {kindOf:Str→Option NameKind}{x:Str}:∀ {binds:List (Str×Value)} {m:Str→Option Value},(∀ v,(x,v)∉binds)→bindC kindOf binds m x=m x
 | [],_,_=>rfl
 | (n,v)::r,m,h=>by
  unfold bindC
  rw [a5g fun w hw=>h w (List.mem_cons_of_mem _ hw)]
  split
  ·rfl
  ·have:x≠n:=by rintro rfl; exact h v List.mem_cons_self
   simp [this]
theorem a5A {kindOf:Str→Option NameKind}{x:Str}{v:Value}:∀ {P:List Str} {vs:List Value} {i:Nat} {m:Str→Option Value},P.Nodup→P[i]?=some x→vs[i]?=some v→kindOf x=some .local→
  bindL kindOf (P.zip vs) m x=some v
 | [],_,_,_,_,h,_,_=>by simp at h
 | _::_,[],_,_,_,_,h,_=>by simp at h
 | p::P,w::vs,0,m,nd,h1,h2,hk=>by
  simp at h1 h2; subst h1; subst h2
  show bindL kindOf ((p,w)::P.zip vs) m p=_
  unfold bindL
  rw [a5r fun v hv=>(List.nodup_cons.mp nd).1 (List.of_mem_zip hv).1,if_pos hk]
  simp
 | p::P,w::vs,i + 1,m,nd,h1,h2,hk=>by
  show bindL kindOf ((p,w)::P.zip vs) m x=_
  unfold bindL
  exact a5A (i:=i) (List.nodup_cons.mp nd).2 (by simpa using h1) (by simpa using h2) hk
theorem a5G {kindOf:Str→Option NameKind}{x:Str}{v:Value}:∀ {P:List Str} {vs:List Value} {i:Nat} {m:Str→Option Value},P.Nodup→P[i]?=some x→vs[i]?=some v→kindOf x≠some .local→
  bindC kindOf (P.zip vs) m x=some v
 | [],_,_,_,_,h,_,_=>by simp at h
 | _::_,[],_,_,_,_,h,_=>by simp at h
 | p::P,w::vs,0,m,nd,h1,h2,hk=>by
  simp at h1 h2; subst h1; subst h2
  show bindC kindOf ((p,w)::P.zip vs) m p=_
  unfold bindC
  rw [a5g fun v hv=>(List.nodup_cons.mp nd).1 (List.of_mem_zip hv).1,if_neg hk]
  simp
 | p::P,w::vs,i + 1,m,nd,h1,h2,hk=>by
  show bindC kindOf ((p,w)::P.zip vs) m x=_
  unfold bindC
  exact a5G (i:=i) (List.nodup_cons.mp nd).2 (by simpa using h1) (by simpa using h2) hk
noncomputable def start (N:List Str)(vs:List V):St:=vs.map some++List.replicate (N.length - vs.length) none
noncomputable def a4C (CX:CXT)(P:Program)(w:World)(K:PySem.W.Frag)(mg:Str→Option Value)(base:Heap)(N:List Str)(qual:Str)(scope:Scope)(f:Addr)(cd:Value)(A:Around)(outer:List Env)(s:Shared)(H:Hp)(E:XK):Cx where
 prog:=P
 w:=w
 K:=K
 mg:=mg
 base:=base
 A:=A.deeper (envOfC qual scope s.heap.objs.size f cd)
 N:=N
 s₀:=s
 H₀:=H
 env:=envOfC qual scope s.heap.objs.size f cd
 outer:=outer
 stack:=envOfC qual scope s.heap.objs.size f cd::outer
 ex:=[]
 calm:=true
 fn:=fun _=>true
 pn:=[]
 xe:=fun e s'=>wpAny (model P w) (A.deeper (envOfC qual scope s.heap.objs.size f cd)) (leaving (envOfC qual scope s.heap.objs.size f cd) e) (fun _ s''=>CX outer H s E e s'') (fun e' s''=>CX outer H s E e' s'') s'
theorem a7W {sc:Scope}{n:Nat}{x:Str}(h:sc.names.lookup x=some .cell):∃ c,(cellsFrom n sc.names []).lookup x=some c:=by
 have q:=PySem.W.cellsFrom_some sc.names n [] (.inl h)
 exact Option.isSome_iff_exists.mp q
theorem b0M {CX:CXT}{P:Program}{w:World}{K:PySem.W.Frag}{mg:Str→Option Value}{base:Heap}{N ps:List Str}{qual:Str}{scope:Scope}{f:Addr}{cd:Value}{A:Around}{outer:List Env}{s s1:Shared}{H:Hp}{E:XK}{us:List Value}{vs:List V}
  (S:v8 N ps scope) (hd:A.handled=none) (e0:a6Z P w K mg base A outer s H) (hl:vs.length=ps.length) (r:Vals vs us)
  (x:InCallC s s.heap.objs.size (bindL (envOfC qual scope s.heap.objs.size f cd).kindOf (ps.zip us) fun _=>none) (cellsFrom (s.heap.objs.size + 1) scope.names []) (bindC (envOfC qual scope s.heap.objs.size f cd).kindOf (ps.zip us) fun _=>none) s1):
  Inv (a4C CX P w K mg base N qual scope f cd A outer s H E) [] (start N vs) H s1:=by
 have hpl:ps.length≤N.length:=by have:=congrArg List.length S.pre; rw [List.length_take] at this; omega
 refine l6 (x.done) fun h1 tk Z1 hk=>?_; subst Z1
 have noA:∀ b:Addr,b∉(a4C CX P w K mg base N qual scope f cd A outer s H E).ex:=fun b z=>absurd (show b∈([]:List Addr) from z) (by simp)
 refine ⟨⟨e0.mod,S.kind,rfl,rfl,Nat.le_refl _,fun y z c h1 h2=>?_,fun y hy=>?_,fun y c _ h=>?_,fun _=>hd,Around.frames_deeper e0.frames,.inr ⟨rfl,rfl⟩,fun b z=>absurd z (noA b),e0.bs,e0.bsz,fun b _ _=>noA b,fun b z=>absurd z (noA b),e0.a18,e0.frf⟩,
  rfl,e0.bare,Un.kept hk,⟨_,x.toInCall.ns,fun i y v h1 h2 h3=>?_⟩,fun y c h=>⟨_,x.cell y c h⟩,e0.hok.fresh (Nat.le_refl _),fun y c h=>?_,fun p hp=>absurd (show p∈([]:List (Addr×Obj)) from hp) (by simp),e0.hok.kept hk,?_⟩
 ·exact name_of_addr x.apart (PySem.mem_of_lookup h1) (PySem.mem_of_lookup h2)
 ·have hy:scope.names.lookup y=some .cell∨scope.names.lookup y=some .free:=hy
  refine Or.elim (hy) (fun hy=>?_) fun hy=>?_
  ·exact a7W hy
  ·exact absurd rfl (S.nofree _ (PySem.mem_of_lookup hy))
 ·exact Nat.le_of_lt (x.above y c (PySem.mem_of_lookup h))
 ·have hi:i < vs.length:=by
   unfold start at h2
   by_cases hi:i < vs.length
   ·exact hi
   ·rw [List.getElem?_append_right (by simpa using hi)] at h2
    rw [List.getElem?_replicate] at h2
    split at h2 <;> cases h2
  have ha:vs[i]?=some v:=by
   unfold start at h2
   rw [List.getElem?_append_left (by simpa using hi),List.getElem?_map] at h2
   cases e:vs[i]? with
   | none=>rw [e] at h2; cases h2
   | some a=>rw [e] at h2; cases h2; rfl
  refine c6 (r.get ha) fun u hu rv=>?_
  have hp:ps[i]?=some y:=by
   rw [← S.pre,List.getElem?_take_of_lt (by omega)]; exact h1
  have ndP:ps.Nodup:=by rw [← S.pre]; exact S.nd.sublist (List.take_sublist _ _)
  refine ⟨u,rv,?_⟩
  refine Or.elim (S.par y (List.mem_of_getElem? hp)) (fun k=>?_) fun k=>?_
  ·exact .inl ⟨k,a5A ndP hp hu k⟩
  ·refine g8 (a7W (n:=s.heap.objs.size + 1) k) fun c e=>?_
   refine .inr ⟨.inl k,c,e,?_⟩
   have q:=x.cell y c e
   rw [a5G ndP hp hu (by show scope.names.lookup y≠_; rw [k]; decide)] at q
   exact q
 ·exact e0.hok.fresh (Nat.le_of_lt (x.above y c (PySem.mem_of_lookup h)))
 ·unfold start
  show _=N.length
  rw [List.length_append,List.length_map,List.length_replicate]
  omega
theorem b7U {CX:CXT}{P:Program}{w:World}{K:PySem.W.Frag}{mg:Str→Option Value}{base:Heap}{k:Nat}{f:Addr}{name qual:Str}{params:Arguments}{body:List Stmt}{scope:Scope}{dV kV doc pm cdv ct oc:Value}{an od:Option Addr}
  {osl:Array (Option Value)} {N ps:List Str} {sp:Sp} (lk:K.lookup f=some ⟨oc,od,.func (PySem.W.fnOf name qual params body scope dV kV doc pm an cdv ct),osl⟩) (hcd:PySem.W.codeIn K cdv qual=true) (S:v8 N ps scope)
  (len:∀ vs H Q E,sp vs H Q E→vs.length=ps.length)
  (hbody:∀ (A:Around) (outer:List Env) (s:Shared) (H:Hp) (vs:List V) (Q:VK) (E:XK),K5 k (A.deeper (envOfC qual scope s.heap.objs.size f cdv))→sp vs H Q E→
   ∃ t,PSs (a4C CX P w K mg base N qual scope f cdv A outer s H E) body t∧t { nx:=fun _ H'=>Q .w6 H',rt:=Q } (start N vs) H):
  B7 P w K mg base CX (k + 1) f (PySem.W.fnOf name qual params body scope dV kV doc pm an cdv ct) ps sp:=by
 refine ⟨len,fun A outer s H args us vs Q E hr e0 hb r hsp=>?_⟩
 have hl:=len _ _ _ _ hsp
 have KX:K.In s.heap:=e0.mod.kin.keeps fun b o e=>(e0.bs b o e).1
 have lim:s.heap.NoLimit:=e0.mod.nolimit.keeps fun b o e=>(e0.bs b o e).1
 have hkind:∀ y∈ps.zip us,scope.names.lookup y.1=some .local∨(scope.names.lookup y.1=some .cell∧((cellsFrom (s.heap.objs.size + 1) scope.names []).lookup y.1).isSome=true):=fun ⟨n,v⟩ hy=>by
  refine Or.elim (S.par n (List.of_mem_zip hy).1) (fun q=>?_) fun q=>?_
  ·exact .inl q
  ·exact .inr ⟨q,PySem.W.cellsFrom_some _ _ _ (.inl q)⟩
 refine codeAny_call_function hr.depth (KX _ _ lk) rfl S.co S.gen rfl (PySem.W.codeRec_of KX hcd) (hb _ _ _ _ ?_)
 refine wpAny_newFunctionEnv_cells S.kind hkind fun env he s1 x=>?_
 subst he
 refine ⟨lim.keeps x.toInCall.keep,codeAny_func ?_⟩
 refine c6 (hbody A outer s H vs Q E (hr.deeper _) hsp) fun t ht hq=>?_
 have I:Inv (a4C CX P w K mg base N qual scope f cdv A outer s H E) [] (start N vs) H s1:=b0M S hr.hd e0 hl r x
 refine wpAny_mono (ht [] s1 (start N vs) H _ I hq) (fun fl s' hs=>?_) fun e s' hs=>hs
 have fin:∀ {σ':St} {H':Hp} {v:V} {u:Value},Inv (a4C CX P w K mg base N qual scope f cdv A outer s H E) [] σ' H' s'→RelV v u→Q v H'→CE outer P w H s Q u s':=
  fun {σ' H' v u} J rv q=>⟨v,H',J.os,J.bare,J.base,J.hok,rv,q⟩
 cases fl with
 | ret u=>
  refine E5 (hs) fun v σ' H' J rv q=>?_
  exact fin J rv q
 | next=>
  refine l6 (hs) fun σ' H' J q=>?_
  exact fin (v:=V.w6) (u:=Value.none) J rfl q
 | brk=>
  refine l6 (hs) fun _ _ _ q=>?_
  exact False.elim q
 | cont=>
  refine l6 (hs) fun _ _ _ q=>?_
  exact False.elim q
end L2
namespace L2
open PySem PySem.Spec PyProof.Rows
section
variable {X:Cx}{x:Str}{p pos:Pos}{e:Expr}{es:List Expr}{t:TA}{id T:String}{r:List V→Hp→VK→Prop}
noncomputable def tCB (r:List V→Hp→VK→Prop)(t:TA):TE:=fun σ H Q=>t σ H fun vs H1=>r vs H1 Q
theorem b3k (hc:F8 X (.builtin id) r)(hg:Gl X x)(hm:X.mg x=none)(hv:bootBuiltins x=some (.builtin id))(ha:PA X (e::es) t)(hn:autoParam (x≠"__name__") Y0._auto_1) (hdb:autoParam ((x == ("__debug__":Str))=false) Y0._auto_1)
  (he:autoParam (starEach (e::es) X.env=(false,eval e X.env)::starEach es X.env) m6._auto_1) (hpl:autoParam ((backTo pos (starEach es X.env)).any (·.1)=false) m6._auto_1):PE X (.Call (.Name x p) (e::es) [] pos) (tCB r t):=by
 intro pins s σ H Q I h
 refine wpAny_Call_Name_kw (V3 I hg hm hv ?_ hn hdb)
 exact PyProof.Rows.callWith_builtin1 (E6 (ha pos pins s σ H _ I h) fun us s1 Z9=>i9 Z9 fun vs H1 I1 r1 q1=>hc pins s1 σ H1 vs us Q I1 r1 q1) he hpl
theorem a99 (hc:F8 X (.type T) r)(hg:Gl X x)(hm:X.mg x=none)(hv:bootBuiltins x=some (.type T))(ha:PA X (e::es) t)(hn:autoParam (x≠"__name__") Y0._auto_1) (hdb:autoParam ((x == ("__debug__":Str))=false) Y0._auto_1)
  (he:autoParam (starEach (e::es) X.env=(false,eval e X.env)::starEach es X.env) m6._auto_1) (hpl:autoParam ((backTo pos (starEach es X.env)).any (·.1)=false) m6._auto_1):PE X (.Call (.Name x p) (e::es) [] pos) (tCB r t):=by
 intro pins s σ H Q I h
 refine wpAny_Call_Name_kw (V3 I hg hm hv ?_ hn hdb)
 exact PyProof.Rows.callWith_type1 (E6 (ha pos pins s σ H _ I h) fun us s1 Z9=>i9 Z9 fun vs H1 I1 r1 q1=>hc pins s1 σ H1 vs us Q I1 r1 q1) he hpl
end
end L2
namespace HT
open PySem PyProof.Rows
section
variable {prog:Program}{w:World}{A:Around}{E:Value→Shared→Prop}{s:Shared}
noncomputable def sIx (n d:Nat):Option Int→Nat
 | none=>d
 | some v=>if v < 0 then (v + (n:Int)).toNat else min v.toNat n
theorem b1D (n d:Nat):sIx n d none=d:=rfl
theorem b3H (n d k:Nat):sIx n d (some (k:Int))=min k n:=by
 show (if (k:Int) < 0 then ((k:Int) + (n:Int)).toNat else min (k:Int).toNat n)=min k n
 rw [if_neg (by omega),Int.toNat_natCast]
end
end HT
namespace L2
open PySem PySem.Spec PyProof.Rows
noncomputable abbrev TO:=St→Hp→(Option Int→Hp→Prop)→Prop
noncomputable def PO (X:Cx)(e:Option Expr)(t:TO):Prop:=
 ∀ (pins:List (Addr×Obj)) (s:Shared) (σ:St) (H:Hp) (Q:Option Int→Hp→Prop),Inv X pins σ H s→t σ H Q→
  wpAny (model X.prog X.w) X.A (evalPart e X.env) (fun u s'=>∃ o H',Inv X pins σ H' s'∧IsPart u o∧Q o H') X.xe s
noncomputable def b34:TO:=fun _ H Q=>Q none H
noncomputable def b8A (t:TE):TO:=fun σ H Q=>t σ H fun x H1=>∃ i,x=.int i∧Q (some i) H1
theorem intsAre_of {ns:List Int}:∀ {us:List Value},Vals (ns.map V.int) us→IntsAre us ns:=by
 induction ns with
 | nil=>intro us r; rw [List.map_nil] at r; cases r; exact .nil
 | cons n ns ih=>
  intro us r
  rw [List.map_cons] at r
  cases r with
  | cons r1 r2=>
   refine g8 (r1) fun t e=>?_
   subst e
   exact .cons n t (ih r2)
section
variable {X:Cx}{e:Expr}{te:TE}{lo hi:Option Expr}{tl th:TO}{pos p2:Pos}
theorem b4n:PO X none b34:=by
 intro pins s σ H Q I h
 rw [evalPart_none]
 exact wpAny_pure ⟨none,H,I,.none,h⟩
theorem b4d (h:PE X e te):PO X (some e) (b8A te):=by
 intro pins s σ H Q I hw
 rw [evalPart_some]
 refine E6 (h pins s σ H _ I hw) fun u s1 Z0=>i9 (Z0) fun x H1 I1 r1 q1=>?_
 refine c6 (q1) fun i Z1 q=>?_; subst Z1
 refine g8 (r1) fun t Z1=>?_; subst Z1
 exact ⟨some i,H1,I1,.int i t,q⟩
noncomputable def SlR (X:Cx)(r:V→Option Int→Option Int→Hp→VK→Prop):Prop:=
 ∀ (pins:List (Addr×Obj)) (s:Shared) (σ:St) (H:Hp) (x:V) (v vl vu:Value) (lo hi:Option Int) (sl:Addr) (Q:VK),Inv X pins σ H s→RelV x v→s.heap.IsSliceOf sl vl vu .none→IsPart vl lo→IsPart vu hi→r x lo hi H Q→
  ∃ T id,typeLookup (.type T) "__getitem__"=pure (some (.builtin id))∧s.TypeIs v T∧wpAny (model X.prog X.w) X.A (getItem v (.ref sl)) (EP X pins σ Q) X.xe s
theorem SlR.or {r r':V→Option Int→Option Int→Hp→VK→Prop}(h:SlR X r)(h':SlR X r'):SlR X (fun x lo hi H Q=>r x lo hi H Q∨r' x lo hi H Q):=by
 intro pins s σ H x v vl vu lo hi sl Q I rx hs pl pu q
 refine Or.elim (q) (fun q=>?_) fun q=>?_
 ·exact h pins s σ H x v vl vu lo hi sl Q I rx hs pl pu q
 ·exact h' pins s σ H x v vl vu lo hi sl Q I rx hs pl pu q
noncomputable def tSl (r:V→Option Int→Option Int→Hp→VK→Prop)(te:TE)(tl th:TO):TE:=fun σ H Q=>te σ H fun x H1=>tl σ H1 fun l H2=>th σ H2 fun u H3=>r x l u H3 Q
theorem b2M {r:V→Option Int→Option Int→Hp→VK→Prop}(hr:SlR X r)(he:PE X e te)(hl:PO X lo tl)(hu:PO X hi th):PE X (.Subscript e (.Slice lo hi none p2) pos) (tSl r te tl th):=by
 intro pins s σ H Q I h
 refine Subscript_ (E6 (he pins s σ H _ I h) fun v s1 Z9=>i9 Z9 fun x H1 I1 r1 q1=>?_)
 refine wpAny_Slice (E6 (hl pins s1 σ H1 _ I1 q1) fun vl s2 Z9=>i9 Z9 fun l H2 I2 pl q2=>E6 (hu pins s2 σ H2 _ I2 q2) fun vu s3 Z9=>i9 Z9 fun u H3 I3 pu q3=>?_)
 rw [evalPart_none]
 refine wpAny_pure ?_
 have I4:Inv X pins σ H3 { s3 with heap:=s3.heap.push { cls:=.type "slice",data:=.fields #[vl,vu,.none] } }:=I3.kept (t':=s3.toks) fun b ob q=>Heap.get?_push_of_some _ q
 refine i9 (hr pins { s3 with heap:=s3.heap.push { cls:=.type "slice",data:=.fields #[vl,vu,.none] } } σ H3 x v vl vu l u s3.heap.objs.size Q I4 r1 (Heap.IsSliceOf.new ..) pl pu q3) fun T id hT ht hg=>?_
 show wpAny (model X.prog X.w) X.A (subscriptTail e (.Slice lo hi none p2) v (.ref s3.heap.objs.size)) (EP X pins σ Q) X.xe { s3 with heap:=s3.heap.push { cls:=.type "slice",data:=.fields #[vl,vu,.none] } }
 exact tail_any (ops:=[.ref s3.heap.objs.size,v]) ht hT hg (by with_unfolding_all rfl)
noncomputable def b05 (xs:List V)(lo hi:Option Int):List V:=(xs.drop (HT.sIx xs.length 0 lo)).take (HT.sIx xs.length xs.length hi - HT.sIx xs.length 0 lo)
theorem a7f (xs:List V)(lo hi:Option Int):(b05 xs lo hi).length≤xs.length:=by
 unfold b05
 rw [List.length_take,List.length_drop]
 omega
end
end L2
namespace L2
open PySem PySem.Spec PyProof.Rows
noncomputable def ixN (n:Nat)(i:Int):Option Nat:=if 0≤i then (if i < n then some i.toNat else none) else if -(n:Int)≤i then some (i + n).toNat else none
noncomputable def atI {α:Type}(xs:List α)(i:Int):Option α:=(ixN xs.length i).bind fun j=>xs[j]?
theorem a9z {n:Nat}{i:Int}{j:Nat}(h:ixN n i=some j):seqIndex? i n=some j∧j < n∧-(n:Int)≤i∧i < n:=by
 unfold ixN at h
 by_cases h0:0≤i
 ·rw [if_pos h0] at h
  by_cases h1:i < n
  ·rw [if_pos h1] at h
   have e:i.toNat=j:=Option.some.inj h
   exact ⟨by rw [seqIndex_of h0 h1,e],by omega,by omega,h1⟩
  ·rw [if_neg h1] at h; cases h
 ·rw [if_neg h0] at h
  by_cases h1:-(n:Int)≤i
  ·rw [if_pos h1] at h
   have e:(i + n).toNat=j:=Option.some.inj h
   exact ⟨by rw [seqIndex_neg (by omega) h1,e],by omega,h1,by omega⟩
  ·rw [if_neg h1] at h; cases h
theorem a6M {α:Type}{xs:List α}{i:Int}{v:α}(h:atI xs i=some v):∃ j,seqIndex? i xs.length=some j∧xs[j]?=some v∧j < xs.length∧-(xs.length:Int)≤i∧i < xs.length:=by
 unfold atI at h
 cases e:ixN xs.length i with
 | none=>rw [e] at h; cases h
 | some j=>
  rw [e] at h
  refine a1w (a9z e) fun h1 h2 h3 h4=>?_
  exact ⟨j,h1,h,h2,h3,h4⟩
theorem a56 {α:Type}{xs:List α}{j:Nat}{v:α}(h:xs[j]?=some v):atI xs (j:Int)=some v:=by
 have hj:j < xs.length:=(List.getElem?_eq_some_iff.mp h).1
 have e:ixN xs.length (j:Int)=some j:=by
  unfold ixN
  rw [if_pos (by omega),if_pos (by omega)]; simp
 unfold atI; rw [e]; exact h
theorem b3f {α:Type}(xs:List α)(v:α):atI (xs++[v]) (-1)=some v:=by
 have hl:(xs++[v]).length=xs.length + 1:=by simp
 have e:ixN (xs++[v]).length (-1)=some xs.length:=by
  unfold ixN
  rw [hl,if_neg (by decide),if_pos (by omega)]
  congr 1
  omega
 unfold atI
 rw [e]
 show (xs++[v])[xs.length]?=some v
 simp
noncomputable def a9C (b:Expr):Prop:=∀ o i,subscripted b false o i=operate [o,i] (getItem o i)
noncomputable def IxR (X:Cx)(r:R2):Prop:=
 ∀ (value slice:Expr) (pins:List (Addr×Obj)) (s:Shared) (σ:St) (H:Hp) (x y:V) (v u:Value) (Q:VK),Inv X pins σ H s→RelV x v→RelV y u→r x y H Q→
  subscripted slice false v u=operate [v,u] (getItem v u)→wpAny (model X.prog X.w) X.A (subscriptTail value slice v u) (EP X pins σ Q) X.xe s
noncomputable def MtR (X:Cx)(id:String)(r:V→List V→Hp→VK→Prop):Prop:=
 ∀ (pins:List (Addr×Obj)) (s:Shared) (σ:St) (H:Hp) (x:V) (xs:List V) (v:Value) (us:List Value) (Q:VK),Inv X pins σ H s→RelV x v→Vals xs us→r x xs H Q→
  wpAny (model X.prog X.w) X.A (call (.builtin id) (v::us)) (EP X pins σ Q) X.xe s
section
variable {X:Cx}{a b:Expr}{ta tb:TE}{pos:Pos}
theorem IxR.or {r r':R2}(h:IxR X r)(h':IxR X r'):IxR X (fun x y H Q=>r x y H Q∨r' x y H Q):=by
 intro value slice pins s σ H x y v u Q I rx ry q hs
 refine Or.elim (q) (fun q=>?_) fun q=>?_
 ·exact h value slice pins s σ H x y v u Q I rx ry q hs
 ·exact h' value slice pins s σ H x y v u Q I rx ry q hs
theorem b70 {r:R2}(hr:IxR X r)(ha:PE X a ta)(hb:PE X b tb)(hs:a9C b):PE X (.Subscript a b pos) (tOp r ta tb):=by
 intro pins s σ H Q I h
 exact Subscript_ (b5M ha hb I h fun v u s2 x y H2 I2 rx ry q=>hr a b pins s2 σ H2 x y v u Q I2 rx ry q (hs _ _))
noncomputable def b6X (K:PySem.W.Frag):R2:=fun x y H Q=>∃ p xs i v,x=.ref p∧y=.int i∧L5 K H p xs∧atI xs i=some v∧Q v H
noncomputable def b5z (K:PySem.W.Frag):R2:=fun x y H Q=>∃ p xs i v,x=.ref p∧y=.int i∧Y8 K H p xs∧atI xs i=some v∧Q v H
noncomputable def b8r:R2:=fun x y H Q=>∃ z i c,x=.str z∧y=.int i∧z.length≤sizeLine∧atI z.cps.toList i=some c∧Q (.str ⟨#[c]⟩) H
theorem b37:IxR X (b6X X.K):=by
 intro value slice pins s σ H x y v u Q I rx ry h hs
 refine a5Q (h) fun p xs i z Z1 Z2 hq he q=>?_; subst Z1; subst Z2
 cases rx
 refine g8 (ry) fun t Z1=>?_; subst Z1
 refine j7 (I.list hq) fun its r pl hz=>?_
 refine x6 (a6M he) fun j h1 h2 h3 h4 h5=>?_
 refine c6 (r.get h2) fun w ew rw'=>?_
 have hl:=r.length
 have hn:=a1R
 have fin:EP X pins σ Q w s:=⟨z,H,I,rw',q⟩
 by_cases h0:0≤i
 ·have hj:i.toNat=j:=by
   rw [seqIndex_of h0 h5] at h1
   exact Option.some.inj h1
  exact item_listR pl.isList h0 (by omega) (by rw [hj]; simpa using ew) fin hs
 ·have hj:(i + (its.toArray.size:Int)).toNat=j:=by
   rw [seqIndex_neg (by omega) h4] at h1
   rw [List.size_toArray,← hl]
   exact Option.some.inj h1
  exact subscriptTail_builtinR (x:=w) pl.isList.typeIs slot_list_getitem.lookup
   (wpAny_getItem_list_neg (Q:=fun r s'=>r=w∧EP X pins σ Q r s') pl.isList (by omega) (by rw [List.size_toArray] <;> omega) (by omega) (by rw [hj]; simpa using ew) ⟨rfl,fin⟩) hs
theorem b5R:IxR X (b5z X.K):=by
 intro value slice pins s σ H x y v u Q I rx ry h hs
 refine a5Q (h) fun p xs i z Z1 Z2 hq he q=>?_; subst Z1; subst Z2
 cases rx
 refine g8 (ry) fun t Z1=>?_; subst Z1
 refine j7 (I.tuple hq) fun its r pl hz=>?_
 refine x6 (a6M he) fun j h1 h2 h3 h4 h5=>?_
 refine c6 (r.get h2) fun w ew rw'=>?_
 have hl:=r.length
 have hn:=a1R
 have fin:EP X pins σ Q w s:=⟨z,H,I,rw',q⟩
 exact subscriptTail_builtinR (x:=w) pl.typeIs slot_tuple_getitem.lookup
  (getItem_tuple (j:=j) (Q:=fun r s'=>r=w∧EP X pins σ Q r s') pl (by omega) (by omega) (by rw [List.size_toArray,← hl]; exact h1) (by simpa using ew) ⟨rfl,fin⟩) hs
theorem b6q:IxR X b8r:=by
 intro value slice pins s σ H x y v u Q I rx ry h hs
 refine Y9 (h) fun z i c Z1 Z2 hz he q=>?_; subst Z1; subst Z2
 refine g8 (rx) fun t Z1=>?_; subst Z1
 refine g8 (ry) fun t' Z1=>?_; subst Z1
 refine x6 (a6M he) fun j h1 h2 h3 h4 h5=>?_
 have hl:z.cps.toList.length=z.length:=by simp [Str.length]
 rw [hl] at h1 h4 h5
 have hn:=a1R
 exact tail_any (typeIs_str s z t) slot_str_getitem.lookup (getItem_str (c:=c) (by
  have e1:decide (i < -(2 ^ 63:Int))=false:=decide_eq_false (by omega)
  have e2:decide (i ≥ 2 ^ 63)=false:=decide_eq_false (by omega)
  rw [e1,e2,Bool.or_false]) (by rw [h1]; simpa using h2) ⟨.str ⟨#[c]⟩,H,I.tok _,⟨_,rfl⟩,q⟩) hs
theorem a8K (its:List Value)(n j:Nat)(u:Value):Obj.mapSeq (·.setIfInBounds j u) { cls:=.type "list",data:=.seq its.toArray n }={ cls:=.type "list",data:=.seq (its.set j u).toArray n }:=by
 simp [Obj.mapSeq]
theorem Inv.lst {pins:List (Addr×Obj)}{σ:St}{H:Hp}{s:Shared}{p:Addr}{xs:List V}(I:Inv X pins σ H s)(h:H p=some (.lst xs)):
  ∃ (its:List Value) (n:Nat),Vals xs its∧s.heap.get? p=some { cls:=.type "list",data:=.seq its.toArray n }∧xs.length≤sizeLine:=by
 refine f9 (I.hok p _ h) fun z Z9=>l6 Z9 fun its n r e=>?_
 exact ⟨its,n,r,e,z⟩
theorem Inv.b6Y {pins:List (Addr×Obj)}{σ:St}{H:Hp}{s:Shared}{p:Addr}{xs ys:List V}{its its':List Value}{n n':Nat}{f:Obj→Obj}(I:Inv X pins σ H s)(h:H p=some (.lst xs))
  (ho:s.heap.get? p=some { cls:=.type "list",data:=.seq its.toArray n }) (hf:f { cls:=.type "list",data:=.seq its.toArray n }={ cls:=.type "list",data:=.seq its'.toArray n' }) (r:Vals ys its') (hz:ys.length≤sizeLine) (t:Nat):
  Inv X pins σ (upd H p (.lst ys)) { s with heap:=s.heap.update p f,toks:=t }:=by
 have e:(s.heap.update p f).get? p=some { cls:=.type "list",data:=.seq its'.toArray n' }:=by
  rw [Heap.get?_update_self f ho (by rw [hf] <;> rfl),hf]
 refine I.write (x:=p) (e:=p) (by rw [h]; trivial) (.inl rfl) (fun b u hb q=>(Heap.get?_update_other _ _ (Ne.symm hb)).trans q) ⟨_,e⟩ ?_
 exact ⟨hz,its',n',r,e⟩
noncomputable def b7Y:V→V→V→Hp→(Hp→Prop)→Prop:=fun o i v H Q=>∃ p xs k j,o=.ref p∧i=.int k∧H p=some (.lst xs)∧ixN xs.length k=some j∧Q (upd H p (.lst (xs.set j v)))
theorem set_list:a8L X b7Y:=by
 intro pins s σ H o i v ov iv u Q I ro ri rv h
 refine a5Q (h) fun p xs k j Z1 Z2 hp hj q=>?_; subst Z1; subst Z2
 cases ro
 refine g8 (ri) fun t Z1=>?_; subst Z1
 refine i9 (I.lst hp) fun its n r ho hz=>?_
 refine a1w (a9z hj) fun h1 h2 h3 h4=>?_
 have hl:=r.length
 have hn:=a1R
 have I':Inv X pins σ (upd H p (.lst (xs.set j v))) { s with heap:=s.heap.update p (Obj.mapSeq (·.setIfInBounds j u)) }:=
  I.b6Y hp ho (a8K its n j u) (r.set rv j) (by rw [List.length_set]; exact hz) s.toks
 by_cases h0:0≤k
 ·have hk:k.toNat=j:=by
   rw [seqIndex_of h0 h4] at h1
   exact Option.some.inj h1
  exact PySem.W.ki_setAt ho h0 (by omega) (by rw [List.size_toArray,← hl]; exact h4) (by rw [hk]; exact ⟨_,I',q⟩)
 ·have hk:(k + (its.toArray.size:Int)).toNat=j:=by
   rw [seqIndex_neg (by omega) h3] at h1
   rw [List.size_toArray,← hl]
   exact Option.some.inj h1
  exact PySem.W.ki_setBack ho (by omega) (by rw [List.size_toArray,← hl]; exact h3) (by omega) (by rw [hk]; exact ⟨_,I',q⟩)
theorem a6J (lo hi:Option Int)(n:Nat):(sliceBounds lo hi none n).1=((HT.sIx n 0 lo:Nat):Int)∧(sliceBounds lo hi none n).2.1=((HT.sIx n n hi:Nat):Int)∧(sliceBounds lo hi none n).2.2=1:=by
 refine ⟨?_,?_,rfl⟩
 ·cases lo with
  | none=>simp [sliceBounds,HT.sIx]
  | some i=>
   simp only [sliceBounds,HT.sIx,Option.getD_none,show (1:Int) > 0 by decide,if_true]
   by_cases h:i < 0
   ·simp only [h,if_true] <;> omega
   ·simp only [h,if_false] <;> omega
 ·cases hi with
  | none=>simp [sliceBounds,HT.sIx]
  | some i=>
   simp only [sliceBounds,HT.sIx,Option.getD_none,show (1:Int) > 0 by decide,if_true]
   by_cases h:i < 0
   ·simp only [h,if_true] <;> omega
   ·simp only [h,if_false] <;> omega
theorem a5a (its:List Value)(lo hi:Option Int):slicePick its.toArray lo hi none=((its.drop (HT.sIx its.length 0 lo)).take (HT.sIx its.length its.length hi - HT.sIx its.length 0 lo)).toArray:=by
 refine n8 (a6J lo hi its.toArray.size) fun h1 h2 h3=>?_
 unfold slicePick
 rw [h1,h2,h3]
 simp only [sliceRange_one,pick_run,List.size_toArray] <;> rfl
noncomputable def b8q (K:PySem.W.Frag):V→Option Int→Option Int→Hp→VK→Prop:=fun x lo hi H Q=>∃ a xs,x=.ref a∧L5 K H a xs∧∀ p,H p=none→Q (.ref p) (upd H p (.lst (b05 xs lo hi)))
theorem b4N:SlR X (b8q X.K):=by
 intro pins s σ H x v vl vu lo hi sl Q I rx hs pl pu h
 refine i9 (h) fun a xs Z1 hx q=>?_; subst Z1
 cases rx
 refine j7 (I.list hx) fun its r ht hz=>?_
 have hlen:=r.length
 refine ⟨"list",_,slot_list_getitem.lookup,ht.isList.typeIs,?_⟩
 refine wpAny_getItem_list_slice ht.isList hs pl pu .none (by simp) ?_ (by rw [List.size_toArray] <;> omega)
 rw [a5a,← hlen]
 refine ⟨.ref s.heap.objs.size,_,I.laid (t':=s.toks) (o:=.lst (b05 xs lo hi)) (fun b ob q=>Heap.get?_push_of_some _ q) (Nat.le_refl _) ?_,rfl,q _ (I.hok.fresh (Nat.le_refl _))⟩
 exact ⟨Nat.le_trans (a7f xs lo hi) hz,_,0,(r.drop (HT.sIx xs.length 0 lo)).take (HT.sIx xs.length xs.length hi - HT.sIx xs.length 0 lo),Heap.get?_push_size _ rfl⟩
theorem a6D:OpR X (compareOp .NotIn) (fun x y H Q=>∃ i j,x=.str i∧y=.str j∧Q (.bl (!(!(Builtin.Str.occurrences j i 0 j.length 1).isEmpty))) H):=by
 intro pins s σ H x y v u Q I rx ry h
 refine i9 (h) fun i j Z1 Z2 q=>?_; subst Z1; subst Z2
 refine g8 (rx) fun t Z1=>?_; subst Z1
 refine g8 (ry) fun t' Z1=>?_; subst Z1
 exact notIn_str ⟨.bl _,H,I,rfl,q⟩
theorem a6y:F8 X (.builtin "len") (fun xs H Q=>∃ p ys,xs=[.ref p]∧(L5 X.K H p ys∨Y8 X.K H p ys)∧Q (.int ys.length) H):=by
 intro pins s σ H xs us Q I r h
 refine i9 (h) fun p ys Z1 hq q=>?_; subst Z1
 refine c6 (vals1 r) fun u Z1 rx=>?_; subst Z1
 cases rx
 have hn:=a1R
 refine Or.elim (hq) (fun hq=>?_) fun hq=>?_
 ·refine j7 (I.list hq) fun its r' pl hz=>?_
  have hlen:=r'.length
  exact Calls.call_len_list pl.isList (by simp only [List.size_toArray] <;> omega) ⟨.int ys.length,H,I.tok _,⟨s.toks + 1,by rw [List.size_toArray,hlen]⟩,q⟩
 ·refine j7 (I.tuple hq) fun its r' pl hz=>?_
  have hlen:=r'.length
  exact len_tuple pl (by simp only [List.size_toArray] <;> omega) ⟨.int ys.length,H,I.tok _,⟨s.toks + 1,by rw [List.size_toArray,hlen]⟩,q⟩
theorem a54:F8 X (.builtin "len") (fun xs H Q=>∃ z,xs=[.str z]∧z.length≤sizeLine∧Q (.int z.length) H):=by
 intro pins s σ H xs us Q I r h
 refine j7 (h) fun z Z1 hz q=>?_; subst Z1
 refine c6 (vals1 r) fun u Z1 Z9=>g8 Z9 fun t Z2=>?_; subst Z1; subst Z2
 have hn:=a1R
 exact len_str (by omega) ⟨.int z.length,H,I.tok _,⟨_,rfl⟩,q⟩
theorem F8.or {f:Value}{r r':List V→Hp→VK→Prop}(h:F8 X f r)(h':F8 X f r'):F8 X f (fun xs H Q=>r xs H Q∨r' xs H Q):=by
 intro pins s σ H xs us Q I rs q
 refine Or.elim (q) (fun q=>?_) fun q=>?_
 ·exact h pins s σ H xs us Q I rs q
 ·exact h' pins s σ H xs us Q I rs q
theorem a6s:F8 X (.type "list") (fun xs H Q=>∃ p ys,xs=[.ref p]∧(L5 X.K H p ys∨Y8 X.K H p ys)∧∀ l,H l=none→Q (.ref l) (upd H l (.lst ys))):=by
 intro pins s σ H xs us Q I r h
 refine i9 (h) fun p ys Z1 hq q=>?_; subst Z1
 refine c6 (vals1 r) fun u Z1 rx=>?_; subst Z1
 cases rx
 have fin:∀ (its:List Value),Vals ys its→ys.length≤sizeLine→∀ (h':Heap) (c':Nat),(∀ b o',s.heap.get? b=some o'→h'.get? b=some o')→
   h'.get? s.heap.objs.size=some { cls:=.type "list",dict:=none,data:=.seq its.toArray c',slots:=#[] }→EP X pins σ Q (.ref s.heap.objs.size) { s with heap:=h' }:=fun its r' hz h' c' kp e=>
  ⟨.ref s.heap.objs.size,_,I.laid (t':=s.toks) kp (Nat.le_refl _) (show D8 X.prog X.w _ h' _ (.lst ys) from ⟨hz,its,c',r',e⟩),rfl,q _ (I.hok.fresh (Nat.le_refl _))⟩
 refine Or.elim (hq) (fun hq=>?_) fun hq=>?_
 ·refine j7 (I.list hq) fun its r' pl hz=>?_
  have hlen:=r'.length
  refine j7 (pl.isList) fun o ho hc Z9=>g8 Z9 fun n hd=>?_
  exact call_list_seq p (.inl rfl) ho hc hd (fun h' c' kp e=>fin its r' hz h' c' kp e) (by simp only [List.size_toArray] <;> omega)
 ·refine j7 (I.tuple hq) fun its r' pl hz=>?_
  have hlen:=r'.length
  refine j7 (pl) fun o ho hc Z9=>g8 Z9 fun n hd=>?_
  exact call_list_seq p (.inr rfl) ho hc hd (fun h' c' kp e=>fin its r' hz h' c' kp e) (by simp only [List.size_toArray] <;> omega)
theorem a44:F8 X (.type "tuple") (fun xs H Q=>∃ p ys,xs=[.ref p]∧((L5 X.K H p ys∧∀ l,H l=none→Q (.ref l) (upd H l (.tup ys)))∨(Y8 X.K H p ys∧Q (.ref p) H))):=by
 intro pins s σ H xs us Q I r h
 obtain ⟨p,ys,rfl,h⟩:=h
 refine c6 (vals1 r) fun u Z1 rx=>?_; subst Z1
 cases rx
 refine Or.elim (h) (fun Z0=>f9 (Z0) fun hq q=>?_) fun Z1=>f9 (Z1) fun hq q=>?_
 ·refine j7 (I.list hq) fun its r' pl hz=>?_
  have hlen:=r'.length
  refine call_tuple_list pl.isList (fun h' kp=>?_) (by simp only [List.size_toArray] <;> omega)
  have I1:Inv X pins σ H { s with heap:=h' }:=I.kept (t':=s.toks) kp
  have I2:Inv X pins σ (upd H h'.objs.size (.tup ys)) { s with heap:=h'.push { cls:=.type "tuple",data:=.seq its.toArray } }:=
   I1.laid (t':=s.toks) (fun b o e=>Heap.get?_push_of_some _ e) (Nat.le_refl _) (show D8 X.prog X.w _ _ _ (.tup ys) from ⟨hz,its,r',IsTup.new _ _⟩)
  exact ⟨.ref h'.objs.size,_,I2,rfl,q _ (I1.hok.fresh (Nat.le_refl _))⟩
 ·refine j7 (I.tuple hq) fun its r' pl hz=>?_
  exact call_tuple_same pl ⟨.ref p,H,I,rfl,q⟩
noncomputable def tyV (K:PySem.W.Frag)(T:String)(x:V)(H:Hp):Prop:=match x with
 | .str _=>T="str"
 | .int _=>T="int"
 | .ref p=>(T="list"∧∃ xs,L5 K H p xs)∨(T="tuple"∧∃ o,K.lookup p=some o∧o.cls=.type "tuple"∧o.dict=none)∨
   (T="dict"∧((∃ kvs,H p=some (.dK kvs))∨∃ kvs,H p=some (.dT kvs)))∨(T="set"∧∃ S n,H p=some (.set S n))
 | _=>False
theorem b6W {pins:List (Addr×Obj)}{σ:St}{H:Hp}{s:Shared}{T:String}{x:V}{v:Value}(I:Inv X pins σ H s)(r:RelV x v)(ty:tyV X.K T x H):
  s.TypeIs v T∧∀ a,v=.ref a→∃ ob,s.heap.get? a=some ob∧ob.dict=none:=by
 cases x with
 | str z=>
  refine g8 (r) fun t Z1=>?_; subst Z1
  cases (show T="str" from ty)
  exact ⟨typeIs_str s z t,fun _ e=>nomatch e⟩
 | int i=>
  refine g8 (r) fun t Z1=>?_; subst Z1
  cases (show T="int" from ty)
  exact ⟨typeIs_int s i t,fun _ e=>nomatch e⟩
 | ref p=>
  cases r
  rcases ty with ⟨rfl,xs,hq⟩ | ⟨rfl,o,hk,hc,hd⟩ | ⟨rfl,hk⟩ | ⟨rfl,S,n,hk⟩
  ·refine j7 (I.list hq) fun its _ pl _=>?_
   refine ⟨pl.isList.typeIs,fun a e=>?_⟩
   cases e
   refine R8 (pl) fun o n e c hd _=>?_
   exact ⟨o,e,hd⟩
  ·refine ⟨⟨o,I.kIn p o hk,hc⟩,fun a e=>?_⟩
   cases e
   exact ⟨o,I.kIn _ o hk,hd⟩
  ·have z:∃ o,s.heap.get? p=some o∧o.ExactDict:=by
    refine Or.elim (hk) (fun Z0=>g8 (Z0) fun kvs hk=>?_) fun Z1=>g8 (Z1) fun kvs hk=>?_
    ·obtain ⟨_,_,_,_,o,_,_,e,ex,_⟩:=I.hok p _ hk
     exact ⟨o,e,ex⟩
    ·obtain ⟨_,_,_,_,o,_,_,e,ex,_⟩:=I.hok p _ hk
     exact ⟨o,e,ex⟩
   refine c6 (z) fun o e ex=>?_
   refine ⟨⟨o,e,ex.1⟩,fun a e2=>?_⟩
   cases e2
   exact ⟨o,e,ex.2.1⟩
  ·refine a0W (I.hok p _ hk) fun o _ _ _ e ex _=>?_
   refine ⟨⟨o,e,ex.1⟩,fun a e2=>?_⟩
   cases e2
   exact ⟨o,e,ex.2.1⟩
 | _=>exact False.elim ty
noncomputable def tBM (K:PySem.W.Frag)(T:String)(r:V→List V→Hp→VK→Prop)(to:TE)(t:TA):TE:=fun σ H Q=>to σ H fun x H1=>tyV K T x H1∧t σ H1 fun xs H2=>r x xs H2 Q
variable {o e:Expr}{es:List Expr}{to:TE}{t:TA}{name:Str}{apos cpos:Pos}{T id:String}{r:V→List V→Hp→VK→Prop}
theorem b3t (pa:PlainAttrs T)(slot:Slot T name id)(hty:typeOf (.builtin id)=pure (.type "method_descriptor")) (hm:MtR X id r) (ho:PE X o to) (ha:PA X (e::es) t)
  (hbase:autoParam (attributeBase o name X.env (eval o X.env)=eval o X.env) m6._auto_1)
  (hfew:autoParam (((backTo cpos (starEach (e::es) X.env)).all (fun x=>!x.1) && (backToKw cpos (keywordEach [] X.env)).all (fun x=>x.1.isSome)
   && decide ((e::es).length + ([]:List Keyword).length + (if ([]:List Keyword).isEmpty then 0 else 1) < 30))=true) m6._auto_1)
  (hline:autoParam ((apos.endLine == cpos.line)=true) m6._auto_1) (hs:autoParam (starEach (e::es) X.env=(false,eval e X.env)::starEach es X.env) m6._auto_1) (hplain:autoParam ((backTo cpos (starEach es X.env)).any (·.1)=false) m6._auto_1):
  PE X (.Call (.Attribute o name apos) (e::es) [] cpos) (tBM X.K T r to t):=by
 intro pins s σ H Q I h
 refine wpAny_Call_method_late hbase hfew hline rfl (E6 (ho pins s σ H _ I h) fun v s1 Z9=>R8 Z9 fun x H1 I1 r1 ty q1=>?_)
 refine f9 (b6W I1 r1 ty) fun h1 h2=>?_
 refine ⟨T,id,pa,slot,hty,h1,h2,?_⟩
 have hA:=ha cpos pins s1 σ H1 _ I1 q1
 rw [hs] at hA ⊢
 refine Calls.callWith_builtin (by show (false || (backTo cpos (starEach es X.env)).any (·.1))=false; rw [hplain] <;> rfl) (Calls.evalArgs_plain ?_)
 exact E6 hA fun us s2 Z9=>i9 Z9 fun vs H2 I2 r2 q2=>hm pins s2 σ H2 x vs v us Q I2 r1 r2 q2
end
end L2
namespace L2
open PySem PySem.Spec PyProof.Rows
noncomputable def MtM (X:Cx)(id:String)(r:V→List V→Hp→VK→Prop):Prop:=
 ∀ (pins:List (Addr×Obj)) (s:Shared) (σ:St) (H:Hp) (x:V) (xs:List V) (v:Value) (us:List Value) (Q:VK),Inv X pins σ H s→RelV x v→Vals xs us→r x xs H Q→
  wpAny (model X.prog X.w) X.A (call (.builtin id) (v::us)) (EP X pins σ Q) X.xe s
theorem Vals.one:∀ {x:V} {us:List Value},Vals [x] us→∃ u,us=[u]∧RelV x u
 | _,_,.cons r .nil=>⟨_,rfl,r⟩
section
variable {X:Cx}{pins:List (Addr×Obj)}{σ:St}{H:Hp}{s:Shared}{l b:Addr}{xs ys zs:List V}
theorem Inv.b9D {its its':List Value}{n:Nat}{f:Array Value→Array Value}{t':Nat}(I:Inv X pins σ H s)(hH:H l=some (.lst xs))
  (e:s.heap.get? l=some { cls:=.type "list",data:=.seq its.toArray n }) (hf:f its.toArray=its'.toArray) (hv:Vals ys its') (hz:ys.length≤sizeLine):
  Inv X pins σ (upd H l (.lst ys)) { s with heap:=s.heap.update l (Obj.mapSeq f),toks:=t' }:=by
 have q:=PySem.IsL.update e f
 rw [hf] at q
 refine I.write (x:=l) (e:=l) (by rw [hH]; exact trivial) (.inl rfl) (fun b' u hb hu=>(Heap.get?_update_other s.heap (Obj.mapSeq f) (Ne.symm hb)).trans hu) ⟨_,q⟩ ?_
 exact ⟨hz,its',_,hv,q⟩
theorem Inv.fresh (I:Inv X pins σ H s):H s.heap.objs.size=none:=I.hok.fresh (Nat.le_refl _)
theorem Inv.b9E (I:Inv X pins σ H s)(hH:H l=some (.lst xs)):xs.length≤sizeLine∧∃ (its:List Value) (n:Nat),Vals xs its∧xs.length=its.length∧s.heap.get? l=some { cls:=.type "list",data:=.seq its.toArray n }:=by
 refine f9 (I.hok l _ hH) fun z Z9=>l6 Z9 fun its n r e=>?_
 exact ⟨z,its,n,r,r.length,e⟩
end
section
variable {X:Cx}
noncomputable def b4M:V→List V→Hp→VK→Prop:=fun x vs H Q=>∃ l xs y,x=.ref l∧vs=[y]∧H l=some (.lst xs)∧xs.length < sizeLine∧Q .w6 (upd H l (.lst (xs++[y])))
theorem b0Z:MtM X "list.append" b4M:=by
 intro pins s σ H x vs v us Q I rx rv h
 refine Y9 (h) fun l xs y Z1 Z2 hH hz q=>?_; subst Z1; subst Z2
 cases rx
 refine c6 (rv.one) fun u Z1 ru=>?_; subst Z1
 refine f9 (I.b9E hH) fun z Z9=>i9 Z9 fun its n r hl e=>?_
 refine call_meets F.slot_list_append ⟨_,e,rfl⟩ F.entry_list_append (F.args_list_append_2 _ _) (PySem.list_append l its.toArray n u (by rw [List.size_toArray]; omega)) ⟨e,?_⟩
 refine ⟨.w6,_,I.b9D (its':=its++[u]) hH e (by simp) (r.append (.cons ru .nil)) ?_,rfl,q⟩
 rw [List.length_append,List.length_singleton]
 omega
end
end L2
namespace Att
open PySem PySem.W PySem.Calls PyProof.Rows
theorem a3F {P:Params}{h:Heap}:∀ (ns:List Int) (vs:List Value),WellAll P h vs (ns.map WData.int)→IntsAre vs ns:=by
 intro ns
 induction ns with
 | nil=>
  intro vs w
  rw [List.map_nil] at w
  cases w
  exact .nil
 | cons n ns ih=>
  intro vs w
  rw [List.map_cons] at w
  cases w with
  | cons a b=>
   cases a
   exact .cons _ _ (ih _ b)
theorem b0R {l:OpenLaw}{n:Nat}(hn:l.most=some n){P:Params}{h:Heap}{args:List WData}{vals:List Value}
  (hpre:l.row.toRowW.claim.pre args=true) (hwl:WellAll P h vals args):
  ∃ a vs ns,vals=[Value.ref a]∧args=[WData.list (ns.map WData.int)]∧h.get? a=some { cls:=.type "list",data:=.seq vs.toArray }∧IntsAre vs ns∧ns.length≤n:=by
 have hsh:WShape.hasAll [] args [.list .int]=true:=(pre_splitW hpre).1
 have hc:l.pre.holds [] { args:=args }=true:=(pre_splitW hpre).2
 refine i9 (hasAllW_cons hsh) fun d r Z1 h1 h2=>?_; subst Z1
 obtain rfl:=hasAllW_nil h2
 refine c6 (hasW_list h1) fun xs Z1 h3=>?_; subst Z1
 refine g8 (items_int h3) fun ns Z1=>?_; subst Z1
 have hlen:ns.length≤n:=by
  unfold OpenLaw.pre at hc
  have h4:(WTm.not (.lt (.lit (.int (n:Int))) (.len (.arg 0)))).holds [] { args:=[.list (ns.map .int)] }=true:=by
   have h4:=(holds_andW hc).1
   rw [hn] at h4
   exact h4
  have h5:=condW_of h4 (w_not (w_lt w_lit (w_len_list (w_arg rfl))))
  rw [List.length_map] at h5
  refine Nat.le_of_not_lt fun q=>?_
  have q':(n:Int) < ((ns.length:Nat):Int):=by omega
  first
   | (rw [decide_eq_true q'] at h5; exact absurd h5 (by decide))
   | (simp at h5; omega)
 cases hwl with
 | cons w1 w2=>
  cases w2
  cases w1 with
  | list ho hall=>exact ⟨_,_,ns,rfl,rfl,ho,a3F ns _ hall,hlen⟩
theorem b04 (l:OpenLaw)(args:List WData):l.row.toRowW.claim.post args (.bool true) args=true:=
 postW_of (r:=l.row.toRowW) (X:=(true == true))
  (show WShape.has [] (.bool true) .bool=true by first | rfl | decide | simp [WShape.has,WShape.arms,WShape.armsAll])
  (show (WTm.eq .res (.lit (.bool true))).value [] { args:=args,res:=some (.bool true),after:=args }=some (.bool (true == true)) from w_eq_bool (w_res rfl) w_lit) rfl
theorem a7q {l:OpenLaw}{n:Nat}{q:Program}{loose:List Str}{XP:(Str→Option Value)→Heap→Prop}{YP:World→Heap→Prop}{d:DefRec}
  (hn:l.most=some n) (hdf:d.params.defaults=[])
  (call:∀ (w:World) (s₀ s₁:Shared) (mg mb:Str→Option Value) (fa:Addr) (o:Obj) (pm cd doc:Value) (a:Addr) (vs:List Value) (ns:List Int),
   Ground q loose [] XP w s₀ mg mb s₁.heap→YP w s₁.heap→
   s₁.heap.get? fa=some o→o.data=.func (docDef d.name d.params d.body d.scope pm cd doc)→s₁.heap.CodeRec cd d.name→mg d.name=some (.ref fa)→
   s₁.heap.get? a=some { cls:=.type "list",data:=.seq vs.toArray }→IntsAre vs ns→ns.length≤n→s₁.gens=#[]→
   codeAny (model l.prog w) callerA (.call (.ref fa) ⟨[.ref a],[]⟩) (fun r s'=>r=.ok (.ret (.bool true))∧OldK s₁.heap s'.heap∧s'.os=s₁.os∧AllBare s'.gens) s₁):
  WalkO q loose XP YP l.row.toRowW d [] (fun f vs=>PySem.call f vs):=by
 intro w s₀ s₁ mg mb G Y fa o pm cd doc dV kV ho hd hcd hD hmg hg args vals as hpre hlay hrd hwl hlo
 obtain rfl:dV=.none:=Dflts.none hD hdf
 obtain rfl:kV=.none:=Dflts.noKw hD
 refine Y9 (b0R hn hpre hwl) fun a vs ns Z1 Z2 hobj hints hlen=>?_; subst Z1; subst Z2
 refine enter_call (codeAny_mono (call w s₀ s₁ mg mb fa o pm cd doc a vs ns G Y ho (fd_plain hd) hcd hmg hobj hints hlen hg) fun r s' hq=>?_)
 refine a1w (hq) fun Z1 h2 h3 h4=>?_; subst Z1
 exact ⟨.inl ⟨.bool true,.bool true,[],rfl,fun _=>rfl,.bool true,b04 l _,fun _=>⟨List.Pairwise.nil,fun _ hm=>(nomatch hm)⟩⟩,h2,h3,h4⟩
end Att
namespace L2
open PySem PySem.Spec PyProof.Rows
theorem a2D:∀ {vs:List Value} {ns:List Int},IntsAre vs ns→Vals (ns.map V.int) vs
 | _,_,.nil=>.nil
 | _,_,.cons n t h=>.cons ⟨t,rfl⟩ (a2D h)
noncomputable def b55 (H:Hp):Prop:=∀ b,H b=none∨∃ o xs,H b=some (.frz o (.lst xs))
theorem b1O {P:Program}{w:World}{K:PySem.W.Frag}{mg mb:Str→Option Value}{CX:CXT}{k:Nat}{fa a:Addr}{fd:FuncData}{x:Str}{sp:Sp}{s₁:Shared}{vs:List Value}{ns:List Int}
  (KX:K.In s₁.heap) (hns:s₁.heap.Ns mainGlobals mg) (hb:s₁.heap.Ns builtinsNs mb) (hbb:∀ x:Str,x≠"__name__"→mb x=bootBuiltins x) (hlim:s₁.heap.NoLimit) (hg:s₁.gens=#[])
  (ha:s₁.heap.get? a=some { cls:=.type "list",data:=.seq vs.toArray }) (hi:IntsAre vs ns) (hl:ns.length≤sizeLine) (hr:K5 k callerA)
  (F:∀ base:Heap,K.In base→base.Ns mainGlobals mg→B7 P w K mg base CX k fa fd [x] sp) (hbind:∀ (s:Shared) (u:Value),BindsTo s fd ⟨[u],[]⟩ [(x,u)])
  (hsp:∀ H:Hp,b55 H→L5 K H a (ns.map V.int)→sp [.ref a] H (fun v _=>v=.bl true) fun _ _ _=>False)
  (hCX:∀ H e s',CX [] H s₁ (fun _ _ _=>False) e s'→False):
  codeAny (model P w) callerA (.call (.ref fa) ⟨[.ref a],[]⟩) (fun r s'=>r=.ok (.ret (.bool true))∧OldK s₁.heap s'.heap∧s'.os=s₁.os∧AllBare s'.gens) s₁:=by
 have rv:=a2D hi
 have lenV:=hi.length
 
 have core:∀ H:Hp,b55 H→L5 K H a (ns.map V.int)→HOk P w H s₁.heap→(∀ b,H b≠none→b=a)→(H a≠none→K.lookup a=none)→
   codeAny (model P w) callerA (.call (.ref fa) ⟨[.ref a],[]⟩) (fun r s'=>r=.ok (.ret (.bool true))∧OldK s₁.heap s'.heap∧s'.os=s₁.os∧AllBare s'.gens) s₁:=by
  intro H hO hS hok hA hK
  have base_of:∀ {b:Addr} {o:Obj},s₁.heap.get? b=some o→H b=none→(a6S s₁.heap H).get? b=some o:=fun e n=>b2s e n
  have noA:∀ {b:Addr} {o:Obj} {es:Array DictEntry} {ep:Nat},s₁.heap.get? b=some o→o.data=.dict es ep→H b=none:=fun {b o es ep} e d=>by
   cases q:H b with
   | none=>rfl
   | some u=>
    have e':b=a:=hA b (by rw [q]; simp)
    subst e'
    rw [ha] at e; cases e
    have d':Data.seq vs.toArray _=Data.dict es ep:=d
    cases d'
  have nsK:∀ {b:Addr} {m:Str→Option Value},s₁.heap.Ns b m→(a6S s₁.heap H).Ns b m:=fun {b m} Z9=>E5 Z9 fun o es ep e d r=>⟨o,es,ep,base_of e (noA e d),d,r⟩
  have hKb:K.In (a6S s₁.heap H):=fun b o e=>base_of (KX b o e) (by
   cases q:H b with
   | none=>rfl
   | some u=>
    have e':b=a:=hA b (by rw [q]; simp)
    subst e'
    rw [hK (by rw [q]; simp)] at e; cases e)
  have hM:Mod K mg (a6S s₁.heap H):=⟨hKb,nsK hns,⟨mb,nsK hb,hbb⟩,let ⟨mc,h1,h2⟩:=hlim; ⟨mc,nsK h1,h2⟩⟩
  have e0:a6Z P w K mg (a6S s₁.heap H) callerA [] s₁ H:=⟨rfl,hM,fun b o e=>b3Y e,Nat.le_of_eq (b0D _ _),trivial,fun b hb=>absurd (show b∈([]:List Addr) from hb) (by simp),hok,.of_eq hg⟩
  refine codeAny_mono ((F _ hKb (nsK hns)).run callerA [] s₁ H ⟨[.ref a],[]⟩ [.ref a] [.ref a] _ _ hr e0 (hbind s₁ (.ref a)) (.cons rfl .nil) (hsp H hO hS)) fun r s' h=>?_
  cases r with
  | error e=>exact (hCX H e s' h).elim
  | ok fl=>
   cases fl with
   | next=>exact False.elim h
   | brk=>exact False.elim h
   | cont=>exact False.elim h
   | ret u=>
    refine a9s (h) fun v H' os bare un hok' r' q=>?_
    have q':v=.bl true:=q
    subst q'
    obtain rfl:u=Value.bool true:=r'
    refine ⟨rfl,OldK.of_keep fun b o e=>?_,os,bare⟩
    cases q:H b with
    | none=>exact un.keep b o e q (by intro z; exact absurd (show b∈([]:List Addr) from z) (by simp)) (by simp)
    | some u=>
     refine Or.elim (hO b) (fun z=>?_) fun Z1=>A6 (Z1) fun ob xs z=>?_
     ·rw [q] at z; cases z
     ·have z2:=un.frzs b ob _ z
      refine f9 (hok b _ z) fun e1 _=>?_
      refine f9 (hok' b _ z2) fun e2 _=>?_
      rw [e] at e1; cases e1
      exact e2
 cases hk:K.lookup a with
 | some o=>
  
  have e:=KX a o hk
  rw [ha] at e
  cases e
  refine core (fun _=>none) (fun _=>.inl rfl) (.inr ⟨_,vs.toArray,_,hk,rfl,rfl,rfl,by rw [List.size_toArray,lenV]; exact hl,by simpa using rv⟩) (fun b u z=>by have z':(none:Option HO)=some u:=z; cases z') (fun b z=>absurd rfl z) fun z=>absurd rfl z
 | none=>
  refine core (fun b=>if b=a then some (.frz { cls:=.type "list",data:=.seq vs.toArray } (.lst (ns.map V.int))) else none) (fun b=>?_) (.inl (.inr ⟨{ cls:=.type "list",data:=.seq vs.toArray },if_pos rfl⟩)) (fun b u z=>?_) (fun b z=>?_) fun _=>hk
  ·by_cases hb:b=a
   ·exact .inr ⟨_,_,if_pos hb⟩
   ·exact .inl (if_neg hb)
  ·by_cases hb:b=a
   ·have z':=(if_pos hb).symm.trans z
    cases z'
    subst hb
    exact ⟨ha,by rw [List.length_map]; exact hl,vs,_,rv,ha⟩
   ·have z':=(if_neg hb).symm.trans z
    cases z'
  ·by_cases hb:b=a
   ·exact hb
   ·exact absurd (if_neg hb) z
end L2
namespace L2
open PySem PySem.Spec PyProof.Rows
noncomputable abbrev KOf {K:PySem.W.Frag}{h:Heap}(_:K.In h):PySem.W.Frag:=K
theorem b4q {l:PySem.W.OpenLaw}{n k:Nat}{q:Program}{loose:List Str}{XP:(Str→Option Value)→Heap→Prop}{YP:World→Heap→Prop}{d:DefRec}{K:Params→PySem.W.Frag}{CX:World→CXT}{sp:World→Sp}{x:Str}
  (hn:l.most=some n) (hn2:n≤sizeLine) (hdf:d.params.defaults=[]) (hr:K5 k callerA)
  (hY:∀ (w:World) (h:Heap),YP w h→(K w.params).In h)
  (F:∀ (w:World) (mg:Str→Option Value) (fa:Addr) (h:Heap),(K w.params).In h→h.Ns mainGlobals mg→mg d.name=some (.ref fa)→
   ∃ fd:FuncData,(∀ (s:Shared) (u:Value),BindsTo s fd ⟨[u],[]⟩ [(x,u)])∧
    ∀ base:Heap,(K w.params).In base→base.Ns mainGlobals mg→B7 l.prog w (K w.params) mg base (CX w) k fa fd [x] (sp w))
  (hsp:∀ (w:World) (H:Hp) (a:Addr) (ns:List Int),ns.length≤n→b55 H→L5 (K w.params) H a (ns.map V.int)→sp w [.ref a] H (fun v _=>v=.bl true) fun _ _ _=>False)
  (hCX:∀ (w:World) (H:Hp) (s:Shared) (e:Value) (s':Shared),CX w [] H s (fun _ _ _=>False) e s'→False):
  PySem.W.WalkO q loose XP YP l.row.toRowW d [] (fun f vs=>PySem.call f vs):=by
 refine Att.a7q hn hdf fun w s₀ s₁ mg mb fa o pm cd doc a vs ns G Y ho hd hcd hmg hobj hints hlen hg=>?_
 have KX:=hY w _ Y
 refine c6 (F w mg fa _ KX G.T.g hmg) fun fd hb hF=>?_
 exact b1O KX G.T.g G.T.b G.T.builtins G.T.nolimit hg hobj hints (Nat.le_trans hlen hn2) hr hF hb (fun H hO hS=>hsp w H a ns hlen hO hS) fun H e s'=>hCX w H s₁ e s'
end L2
namespace L2
open PySem PySem.Spec PyProof.Rows
noncomputable def inClass (s:Stmt)(j:Nat):Stmt:=match s with
 | .ClassDef _ _ _ body _ _ _ _ _ _ _=>body.getD j (.Pass ⟨0,0,0,0⟩)
 | _=>.Pass ⟨0,0,0,0⟩
noncomputable def a0n (s:Stmt):Arguments:=match s with
 | .FunctionDef _ a _ _ _ _ _ _ _ _=>a
 | _=>{ posonlyargs:=[],args:=[],vararg:=none,kwonlyargs:=[],kw_defaults:=[],kwarg:=none,defaults:=[] }
noncomputable def K3 (s:Stmt):List Stmt:=match s with
 | .FunctionDef _ _ b _ _ _ _ _ _ _=>b
 | _=>[]
noncomputable def j9 (s:Stmt):Scope:=match s with
 | .FunctionDef _ _ _ _ _ _ sc _ _ _=>sc
 | _=>{ kind:=.function,names:=[],isGenerator:=false,isCoroutine:=false }
noncomputable abbrev X4:CXT:=fun _ _ _ _ _ _=>False
noncomputable abbrev E0:XK:=fun _ _ _=>False
theorem b2D {X:Cx}:Passes X4 X E0:=fun _ _ _ _ _ _ _ h=>h.elim
structure Fun (K:PySem.W.Frag) (x qual:Str) (st:Stmt) (f:Addr) (fd:FuncData):Prop where
 ex:∃ (oc:Value) (od:Option Addr) (kV doc pm:Value) (an:Option Addr) (cdv ct:Value) (osl:Array (Option Value)),
  fd=PySem.W.fnOf x qual (a0n st) (K3 st) (j9 st) .none kV doc pm an cdv ct∧K.lookup f=some ⟨oc,od,.func fd,osl⟩∧PySem.W.codeIn K cdv qual=true
 kp:PySem.W.keepIn K (.ref f)=true
section
variable {P:Program}{w:World}{K:PySem.W.Frag}{mg:Str→Option Value}{base:Heap}
theorem Fun.ok {x qual:Str}{st:Stmt}{f:Addr}{fd:FuncData}{N ps:List Str}{k:Nat}{sp:Sp}(F:Fun K x qual st f fd)(S:v8 N ps (j9 st))(len:∀ vs H Q E,sp vs H Q E→vs.length=ps.length)
  (hbody:∀ (cdv:Value) (A:Around) (outer:List Env) (s:Shared) (H:Hp) (vs:List V) (Q:VK) (E:XK),K5 k (A.deeper (envOfC qual (j9 st) s.heap.objs.size f cdv))→sp vs H Q E→
   ∃ t,PSs (a4C X4 P w K mg base N qual (j9 st) f cdv A outer s H E).nox (K3 st) t∧t { nx:=fun _ H'=>Q .w6 H',rt:=Q } (start N vs) H):B7 P w K mg base X4 (k + 1) f fd ps sp:=by
 refine b8x (F.ex) fun oc od kV doc pm an cdv ct osl Z1 lk hcd=>?_; subst Z1
 refine b7U lk hcd S len fun A outer s H vs Q E hr hsp=>?_
 refine c6 (hbody cdv A outer s H vs Q E hr hsp) fun t h q=>?_
 exact ⟨t,h.nox,q⟩
theorem b2e {x qual:Str}{st:Stmt}{f:Addr}{oc:Value}{od an:Option Addr}{osl:Array (Option Value)}{kV doc pm cdv ct:Value}(l:K.lookup f=some ⟨oc,od,.func (PySem.W.fnOf x qual (a0n st) (K3 st) (j9 st) .none kV doc pm an cdv ct),osl⟩)
  (c:PySem.W.codeIn K cdv qual=true) (k:PySem.W.keepIn K (.ref f)=true):Fun K x qual st f (PySem.W.fnOf x qual (a0n st) (K3 st) (j9 st) .none kV doc pm an cdv ct):=⟨⟨oc,od,kV,doc,pm,an,cdv,ct,osl,rfl,l,c⟩,k⟩
end
noncomputable def i6 (H H':Hp):Prop:=∀ b o,H b=some o→H' b=some o
theorem i6.refl (H:Hp):i6 H H:=fun _ _ h=>h
theorem i6.trans {H H1 H2:Hp}(a:i6 H H1)(b:i6 H1 H2):i6 H H2:=fun c o h=>b c o (a c o h)
theorem i6.free {H H':Hp}(e:i6 H H'){l:Addr}(h:H' l=Option.none):H l=Option.none:=by
 cases q:H l with
 | none=>rfl
 | some o=>
  rw [e l o q] at h
  cases h
theorem i6.seq {K:PySem.W.Frag}{H H':Hp}{a:Addr}{xs:List V}(e:i6 H H')(h:L5 K H a xs):L5 K H' a xs:=by
 rcases h with (h | ⟨o,h⟩) | h
 ·exact .inl (.inl (e _ _ h))
 ·exact .inl (.inr ⟨o,e _ _ h⟩)
 ·exact .inr h
end L2
namespace L2
open PySem PySem.Spec PyProof.Rows
section
variable {κ:Type}[DecidableEq κ]
noncomputable def a02 (kvs:List (κ×V))(k:κ):Option V:=(kvs.find? fun kv=>decide (kv.1=k)).map (·.2)
noncomputable def putK (kvs:List (κ×V))(k:κ)(v:V):List (κ×V):=
 if (kvs.any fun kv=>decide (kv.1=k))=true then kvs.map (fun kv=>if kv.1=k then (kv.1,v) else kv) else kvs++[(k,v)]
theorem a14 {p:κ×V}{r:List (κ×V)}{k:κ}(e:p.1=k):a02 (p::r) k=some p.2:=by simp [a02,List.find?_cons,e]
theorem a2h {p:κ×V}{r:List (κ×V)}{k:κ}(e:¬ p.1=k):a02 (p::r) k=a02 r k:=by simp [a02,List.find?_cons,e]
theorem a7j (k:κ):∀ kvs:List (κ×V),(kvs.any fun kv=>decide (kv.1=k))=(a02 kvs k).isSome
 | []=>rfl
 | p::r=>by
  rw [List.any_cons]
  by_cases e:p.1=k
  ·simp only [a14 e,decide_eq_true e,Bool.true_or,Option.isSome_some]
  ·rw [a2h e,decide_eq_false e,Bool.false_or]; exact a7j k r
theorem a3i (kvs:List (κ×V))(k:κ)(v:V):(putK kvs k v).length≤kvs.length + 1:=by
 unfold putK
 split
 ·rw [List.length_map]; omega
 ·rw [List.length_append,List.length_cons,List.length_nil]; omega
theorem a0M.a0c {o:Option V}{u:Option Value}(r:a0M o u):o.isSome=u.isSome:=by
 cases o with
 | none=>cases u with
  | none=>rfl
  | some _=>exact (show False from r).elim
 | some _=>cases u with
  | none=>exact (show False from r).elim
  | some _=>rfl
theorem a0M.getD {o:Option V}{u:Option Value}{d:V}{d':Value}(r:a0M o u)(rd:RelV d d'):RelV (o.getD d) (u.getD d'):=by
 cases o with
 | none=>cases u with
  | none=>exact rd
  | some _=>exact (show False from r).elim
 | some _=>cases u with
  | none=>exact (show False from r).elim
  | some _=>exact r
theorem KV.val {kvs:List (κ×V)}{vs:List (κ×Value)}(r:KV kvs vs)(k:κ):a0M (a02 kvs k) (valueAt vs k):=by
 unfold KV at r
 induction r with
 | nil=>exact True.intro
 | @cons p q ps qs h t ih=>
  refine f9 (h) fun h1 h2=>?_
  by_cases e:p.1=k
  ·have e':q.1=k:=h1.symm.trans e
   have b:valueAt (q::qs) k=some q.2:=by simp [valueAt,List.find?_cons,e']
   rw [a14 e,b]; exact h2
  ·have e':¬ q.1=k:=fun z=>e (h1.trans z)
   have b:valueAt (q::qs) k=valueAt qs k:=by simp [valueAt,List.find?_cons,e']
   rw [a2h e,b]; exact ih
theorem KV.any {kvs:List (κ×V)}{vs:List (κ×Value)}(r:KV kvs vs)(k:κ):(kvs.any fun kv=>decide (kv.1=k))=vs.any fun kv=>decide (kv.1=k):=by
 unfold KV at r
 induction r with
 | nil=>rfl
 | cons h t ih=>rw [List.any_cons,List.any_cons,ih,h.1]
theorem KV.repl {kvs:List (κ×V)}{vs:List (κ×Value)}(r:KV kvs vs)(k:κ){y:V}{u:Value}(ry:RelV y u):
  KV (kvs.map fun kv=>if kv.1=k then (kv.1,y) else kv) (vs.map fun kv=>if kv.1=k then (kv.1,u) else kv):=by
 unfold KV at r ⊢
 induction r with
 | nil=>exact .nil
 | @cons p q ps qs h t ih=>
  rw [List.map_cons,List.map_cons]
  refine .cons ?_ ih
  refine f9 (h) fun h1 h2=>?_
  by_cases e:p.1=k
  ·rw [if_pos e,if_pos (h1.symm.trans e)]; exact ⟨h1,ry⟩
  ·rw [if_neg e,if_neg (fun z=>e (h1.trans z))]; exact ⟨h1,h2⟩
theorem KV.put {kvs:List (κ×V)}{vs:List (κ×Value)}(r:KV kvs vs)(k:κ){y:V}{u:Value}(ry:RelV y u):KV (putK kvs k y) (stored vs k u):=by
 unfold putK stored
 rw [r.any k]
 by_cases e:(vs.any fun kv=>decide (kv.1=k))=true
 ·rw [if_pos e,if_pos e]; exact r.repl k ry
 ·rw [if_neg e,if_neg e]; exact Paired.snoc r ⟨rfl,ry⟩
theorem KV.length {kvs:List (κ×V)}{vs:List (κ×Value)}(r:KV kvs vs):kvs.length=vs.length:=Paired.length r
end
theorem a3c {P:Program}{w:World}{k:Key}{u:Value}(r:RelV (kV k) u):(x8 P w).is k u=true:=by
 cases k with
 | inl i=>refine g8 ((show ∃ t,u=Value.int i t from r)) fun t e=>?_; subst e; exact a7u P w i t
 | inr x=>refine g8 ((show ∃ t,u=Value.str x t from r)) fun t e=>?_; subst e; exact a7e P w x t
theorem a5v {P:Program}{w:World}:∀ {ks:List Key} {us:List Value},Vals (ks.map kV) us→ItemsAre (x8 P w) ks us
 | [],_,r=>by rw [List.map_nil] at r; cases r; exact .nil
 | k::ks,_,r=>by
  rw [List.map_cons] at r
  cases r with
  | cons h t=>exact .cons (a3c h) (a5v t)
noncomputable abbrev KT (H:Hp):List (List Key×V)→List (List Key×Addr×Value)→Prop:=Paired fun p q=>p.1=q.1∧H q.2.1=some (.tup (p.1.map kV))∧RelV p.2 q.2.2
theorem KT.val {H:Hp}{kvs:List (List Key×V)}{xs:List (List Key×Addr×Value)}(r:KT H kvs xs)(k:List Key):a0M (a02 kvs k) ((atKey xs k).map (·.2)):=by
 induction r with
 | nil=>exact True.intro
 | @cons p q ps qs h t ih=>
  refine n8 (h) fun h1 _ h2=>?_
  by_cases e:p.1=k
  ·have e':q.1=k:=h1.symm.trans e
   have b:atKey (q::qs) k=some q.2:=by simp [atKey,List.find?_cons,e']
   rw [a14 e,b]; exact h2
  ·have e':¬ q.1=k:=fun z=>e (h1.trans z)
   have b:atKey (q::qs) k=atKey qs k:=by simp [atKey,List.find?_cons,e']
   rw [a2h e,b]; exact ih
theorem KT.repl {H:Hp}{kvs:List (List Key×V)}{xs:List (List Key×Addr×Value)}(r:KT H kvs xs)(k:List Key){y:V}{u:Value}(ry:RelV y u):
  KT H (kvs.map fun kv=>if kv.1=k then (kv.1,y) else kv) (xs.map (putAt k u)):=by
 induction r with
 | nil=>exact .nil
 | @cons p q ps qs h t ih=>
  rw [List.map_cons,List.map_cons]
  refine .cons ?_ ih
  refine n8 (h) fun h1 h2 h3=>?_
  unfold putAt
  by_cases e:p.1=k
  ·rw [if_pos e,if_pos (h1.symm.trans e)]; exact ⟨h1,h2,ry⟩
  ·rw [if_neg e,if_neg (fun z=>e (h1.trans z))]; exact ⟨h1,h2,h3⟩
theorem KT.put {H:Hp}{kvs:List (List Key×V)}{xs:List (List Key×Addr×Value)}(r:KT H kvs xs)(k:List Key){b:Addr}{y:V}{u:Value}(hb:H b=some (.tup (k.map kV)))(ry:RelV y u):
  KT H (putK kvs k y) (storedH xs k b u):=by
 have e:(kvs.any fun kv=>decide (kv.1=k))=(atKey xs k).isSome:=by
  rw [a7j,(r.val k).a0c,Option.isSome_map]
 unfold putK storedH
 rw [e]
 by_cases q:(atKey xs k).isSome=true
 ·rw [if_pos q,if_pos q]; exact r.repl k ry
 ·rw [if_neg q,if_neg q]; exact Paired.snoc r ⟨rfl,hb,ry⟩
theorem KT.keeps {H H':Hp}{kvs:List (List Key×V)}{xs:List (List Key×Addr×Value)}(r:KT H kvs xs)(ht:∀ b ys,H b=some (.tup ys)→H' b=some (.tup ys)):KT H' kvs xs:=
 Paired.b1W r fun _ _ z=>⟨z.1,ht _ _ z.2.1,z.2.2⟩
section
variable {P:Program}{w:World}{H:Hp}{h:Heap}{a:Addr}
theorem b5i {u:HO}(ok:HOk P w H h)(e:Rd H a u):D8 P w H h a u:=e.ok ok
theorem W2 {kvs:List (Key×V)}(ok:HOk P w H h)(e:Rd H a (.dK kvs)):kvs.length≤sizeLine∧(a == sysModules)=false∧∃ vs,KV kvs vs∧h.DictOf (x8 P w) a vs:=
 show D8 P w H h a (.dK kvs) from b5i ok e
theorem b5q {kvs:List (Key×V)}(ok:HOk P w H h)(e:H a=some (.dK kvs)):kvs.length≤sizeLine∧(a == sysModules)=false∧∃ vs,KV kvs vs∧h.DictOf (x8 P w) a vs:=W2 ok (.inl e)
theorem a2O {ks:List Key}(ok:HOk P w H h)(e:H a=some (.tup (ks.map kV))):(tupleKind (x8 P w)).is h ks a:=by
 obtain ⟨_,its,r,o,h1,h2,n,h3⟩:=(show D8 P w H h a (.tup (ks.map kV)) from ok a _ e)
 exact ⟨o,its.toArray,n,h1,h2,h3,by simpa using a5v r⟩
theorem a4f {kvs:List (List Key×V)}(ok:HOk P w H h)(e:Rd H a (.dT kvs)):kvs.length≤sizeLine∧(a == sysModules)=false∧
  ∃ xs,KT H kvs xs∧h.DictOfH (tupleKind (x8 P w)) a xs:=by
 obtain ⟨z,y,xs,r,o,es,ep,h1,h2,h3,h4,h5⟩:=(show D8 P w H h a (.dT kvs) from b5i ok e)
 refine ⟨z,y,xs,r,o,es,ep,h1,h2,h3,h4,fun x hx=>?_,h5⟩
 have all:∀ {l:List (List Key×V)} {m:List (List Key×Addr×Value)},KT H l m→∀ x∈m,(tupleKind (x8 P w)).is h x.1 x.2.1:=by
  intro l m q
  induction q with
  | nil=>intro x hx; exact nomatch hx
  | @cons p q ps qs hq t ih=>
   intro x hx
   refine Or.elim (List.mem_cons.mp hx) (fun e=>?_) fun hx=>?_
   ·subst e
    exact a2O ok (by rw [← hq.1]; exact hq.2.1)
   ·exact ih x hx
 exact all r x hx
theorem b7I {kvs:List (List Key×V)}(ok:HOk P w H h)(e:H a=some (.dT kvs)):kvs.length≤sizeLine∧(a == sysModules)=false∧
  ∃ xs,KT H kvs xs∧h.DictOfH (tupleKind (x8 P w)) a xs:=a4f ok (.inl e)
end
noncomputable def a0P (H:Hp)(a:Addr)(y:V)(r:Option V):Prop:=
 (∃ kvs k,Rd H a (.dK kvs)∧y=kV k∧r=a02 kvs k)∨∃ kvs k b,Rd H a (.dT kvs)∧y=.ref b∧H b=some (.tup (k.map kV))∧r=a02 kvs k
noncomputable def b2T (H:Hp)(a:Addr)(y v:V)(H':Hp):Prop:=
 (∃ kvs k,H a=some (.dK kvs)∧y=kV k∧kvs.length < sizeLine∧H'=upd H a (.dK (putK kvs k v)))∨
 ∃ kvs k b,H a=some (.dT kvs)∧y=.ref b∧H b=some (.tup (k.map kV))∧kvs.length < sizeLine∧H'=upd H a (.dT (putK kvs k v))
theorem b2T.k {H:Hp}{a:Addr}{kvs:List (Key×V)}{k:Key}{v:V}(e:H a=some (.dK kvs))(hl:kvs.length < sizeLine):b2T H a (kV k) v (upd H a (.dK (putK kvs k v))):=.inl ⟨kvs,k,e,rfl,hl,rfl⟩
section
variable {X:Cx}{pins:List (Addr×Obj)}{σ:St}{H:Hp}{s:Shared}{a:Addr}{y v:V}{u r:Value}{o:Option V}{A:Around}{E:Value→Shared→Prop}
theorem Inv.big (I:Inv X pins σ H s):sysModules < s.heap.objs.size:=by
 have h:mainGlobals < s.heap.objs.size:=(I.mod.glob.keeps I.bk).lt
 exact Nat.lt_trans (by decide) h
theorem b01 {Q:Value→Shared→Prop}(hu:A.units + 1 < cLine)(I:Inv X pins σ H s)(g:a0P H a y (some v))(ry:RelV y u)(h:∀ w' s',Inv X pins σ H s'→RelV v w'→Q w' s'):
  wpAny (model X.prog X.w) A (getItem (.ref a) u) Q E s:=by
 refine Or.elim (g) (fun Z0=>i9 (Z0) fun kvs k e ey l=>?_) fun Z1=>n6 (Z1) fun kvs k b e ey eb l=>?_
 ·subst ey
  refine n8 (W2 I.hok e) fun z hd Z9=>c6 Z9 fun vs rel dd=>?_
  refine c6 (a0M.some_of (v:=v) (o:=valueAt vs k) (by rw [l]; exact rel.val k)) fun w' hw rw'=>?_
  exact wpAny_getItem_of (a3c ry) dd.mapOf hw (h w' _ (I.tok _) rw')
 ·subst ey
  cases (show u=Value.ref b from ry)
  refine n8 (a4f I.hok e) fun z hd Z9=>c6 Z9 fun xs rel dd=>?_
  refine c6 (a0M.some_of (v:=v) (o:=(atKey xs k).map (·.2)) (by rw [l]; exact rel.val k)) fun w' hw rw'=>?_
  refine c6 (Option.map_eq_some_iff.mp hw) fun p hp hp2=>?_
  refine wpAny_getItem_heap (tupleKind_room_in1 hu) (a2O I.hok eb) dd hp ?_
  rw [hp2]
  exact h w' _ (I.tok _) rw'
theorem b9K {Q:Value→Shared→Prop}(hu:A.units + 1 < cLine)(I:Inv X pins σ H s)(g:a0P H a y o)(ry:RelV y u)(h:∀ s',Inv X pins σ H s'→Q (.bool o.isSome) s'):
  wpAny (model X.prog X.w) A (compareOp .In u (.ref a)) Q E s:=by
 refine Or.elim (g) (fun Z0=>i9 (Z0) fun kvs k e ey l=>?_) fun Z1=>n6 (Z1) fun kvs k b e ey eb l=>?_
 ·subst ey
  refine n8 (W2 I.hok e) fun z hd Z9=>c6 Z9 fun vs rel dd=>?_
  refine wpAny_in_of (a3c ry) hd dd.mapOf ?_
  rw [← (rel.val k).a0c,← l]
  exact h _ (I.tok _)
 ·subst ey
  cases (show u=Value.ref b from ry)
  refine n8 (a4f I.hok e) fun z hd Z9=>c6 Z9 fun xs rel dd=>?_
  refine wpAny_in_heap (tupleKind_room_in1 hu) (a2O I.hok eb) hd dd ?_
  have q:=(rel.val k).a0c
  rw [Option.isSome_map] at q
  rw [← q,← l]
  exact h _ (I.tok _)
theorem b4u {Q:Value→Shared→Prop}(hu:A.units + 1 < cLine)(I:Inv X pins σ H s)(g:a0P H a y o)(ry:RelV y u)(h:∀ s',Inv X pins σ H s'→Q (.bool (!o.isSome)) s'):
  wpAny (model X.prog X.w) A (compareOp .NotIn u (.ref a)) Q E s:=by
 refine Or.elim (g) (fun Z0=>i9 (Z0) fun kvs k e ey l=>?_) fun Z1=>n6 (Z1) fun kvs k b e ey eb l=>?_
 ·subst ey
  refine n8 (W2 I.hok e) fun z hd Z9=>c6 Z9 fun vs rel dd=>?_
  refine wpAny_notIn_of (a3c ry) hd dd.mapOf ?_
  rw [← (rel.val k).a0c,← l]
  exact h _ (I.tok _)
 ·subst ey
  cases (show u=Value.ref b from ry)
  refine n8 (a4f I.hok e) fun z hd Z9=>c6 Z9 fun xs rel dd=>?_
  refine wpAny_notIn_heap (tupleKind_room_in1 hu) (a2O I.hok eb) hd dd ?_
  have q:=(rel.val k).a0c
  rw [Option.isSome_map] at q
  rw [← q,← l]
  exact h _ (I.tok _)
theorem a6N {h':Heap}{t':Nat}{ob:HO}(I:Inv X pins σ H s)(mu:Mut (H a))(hs:Heap.SameBut a s.heap h')(he:∃ q,h'.get? a=some q)(new:D8 X.prog X.w (upd H a ob) h' a ob):
  Inv X pins σ (upd H a ob) { s with heap:=h',toks:=t' }:=
 I.write (x:=a) (e:=a) mu (.inl rfl) (fun b q hb z=>(hs.2 b hb).trans z) he new
theorem a6O {P:Program}{w:World}{H':Hp}{h':Heap}{kvs:List (Key×V)}{vs:List (Key×Value)}(z:kvs.length≤sizeLine)(hd:(a == sysModules)=false)(rel:KV kvs vs)(dd:h'.DictOf (x8 P w) a vs):
  D8 P w H' h' a (.dK kvs):=⟨z,hd,vs,rel,dd⟩
theorem b0d {H':Hp}{Q:Unit→Shared→Prop}(hu:A.units + 1 < cLine)(I:Inv X pins σ H s)(g:b2T H a y v H')(ry:RelV y u)(rv:RelV v r)(h:∀ s',Inv X pins σ H' s'→Q () s'):
  wpAny (model X.prog X.w) A (setItem (.ref a) u r) Q E s:=by
 refine Or.elim (g) (fun Z0=>R8 (Z0) fun kvs k e ey l eH=>?_) fun Z1=>Y9 (Z1) fun kvs k b e ey eb l eH=>?_
 ·subst ey eH
  refine n8 (b5q I.hok e) fun z hd Z9=>c6 Z9 fun vs rel dd=>?_
  have hz:vs.length≤sizeLine:=by rw [← rel.length]; exact z
  have hl:(putK kvs k v).length≤sizeLine:=by have:=a3i kvs k v; omega
  refine wpAny_setItem_pairs (hsz:=hz) (a3c ry) dd fun h' dd' hs=>h _ ?_
  have he:∃ q,h'.get? a=some q:=let ⟨q,_,_,hq,_⟩:=dd'; ⟨q,hq⟩
  exact a6N I (by rw [e]; exact True.intro) hs he (a6O hl hd (rel.put k rv) dd')
 ·subst ey eH
  cases (show u=Value.ref b from ry)
  refine n8 (b7I I.hok e) fun z hd Z9=>c6 Z9 fun xs rel dd=>?_
  have hz:xs.length≤sizeLine:=by rw [← Paired.length rel]; exact z
  have hl:(putK kvs k v).length≤sizeLine:=by have:=a3i kvs k v; omega
  refine wpAny_setItem_heap (hsz:=hz) (tupleKind_room_in1 hu) (a2O I.hok eb) dd fun h' dd' hs=>h _ ?_
  refine b48 (dd') fun q es ep hq h2 h3 h4 _ h5=>?_
  refine a6N I (by rw [e]; exact True.intro) hs ⟨q,hq⟩ ⟨hl,hd,_,(rel.put k eb rv).keeps fun c ys ec=>?_,q,es,ep,hq,h2,h3,h4,h5⟩
  rw [j3 (b7m ec e (fun z=>nomatch z))]
  exact ec
end
section
variable {X:Cx}{pins:List (Addr×Obj)}{σ:St}{H:Hp}{s:Shared}{a:Addr}{kvs:List (Key×V)}{k:Key}{u:Value}{A:Around}{E:Value→Shared→Prop}
theorem a3s {Q:Value→Shared→Prop}(I:Inv X pins σ H s)(e:Rd H a (.dK kvs))(h:∀ t s',Inv X pins σ H s'→Q (.int kvs.length t) s'):wpAny (model X.prog X.w) A (call (.builtin "len") [.ref a]) Q E s:=by
 refine n8 (W2 I.hok e) fun z hd Z9=>c6 Z9 fun vs rel dd=>?_
 refine call_len_dict hd dd (by rw [← rel.length]; rw [sizeLine_eq] at z; omega) ?_
 rw [← rel.length]
 exact h _ _ (I.tok _)
end
theorem a65 {X:Cx}{pins:List (Addr×Obj)}{σ:St}{H:Hp}{s:Shared}{a:Addr}{y:V}{o:Option V}(I:Inv X pins σ H s)(g:a0P H a y o):s.TypeIs (.ref a) "dict":=by
 refine Or.elim (g) (fun Z0=>i9 (Z0) fun kvs k e _ _=>?_) fun Z1=>n6 (Z1) fun kvs k b e _ _ _=>?_
 ·refine n8 (W2 I.hok e) fun _ _ Z9=>c6 Z9 fun vs _ dd=>?_
  exact dd.typeIs
 ·refine n8 (a4f I.hok e) fun _ _ Z9=>c6 Z9 fun xs _ dd=>?_
  exact dd.typeIs
theorem b3h {P:Program}{w:World}{H:Hp}(h:Heap)(hb:sysModules < h.objs.size):D8 P w H (h.push { cls:=.type "dict",data:=.dict #[] }) h.objs.size (.dK []):=
 ⟨Nat.zero_le _,beq_eq_false_iff_ne.mpr (Ne.symm (Nat.ne_of_lt hb)),[],.nil,Heap.DictOf.new h⟩
noncomputable def b5W:TE:=fun _ H Q=>∀ p,H p=none→Q (.ref p) (upd H p (.dK []))
section
variable {X:Cx}{pos:Pos}
theorem b2z:PE X (.Dict [] [] pos) b5W:=fun pins s σ H Q I h=>
 wpAny_Dict_empty ⟨.ref s.heap.objs.size,_,I.laid (a:=s.heap.objs.size) (o:=.dK []) (t':=s.toks) (fun _ _ q=>Heap.get?_push_of_some _ q) (Nat.le_refl _) (b3h s.heap I.big),rfl,h _ (I.hok.fresh (Nat.le_refl _))⟩
end
structure M1 (X:Cx) (o:Expr) (m:Str) (apos:Pos) (e:Expr) (cpos:Pos):Prop where
 base:attributeBase o m X.env (eval o X.env)=eval o X.env
 few:((backTo cpos (starEach [e] X.env)).all (fun x=>!x.1) && (backToKw cpos (keywordEach [] X.env)).all (fun x=>x.1.isSome)
  && decide (([e]:List Expr).length + ([]:List Keyword).length + (if ([]:List Keyword).isEmpty then 0 else 1) < 30))=true
 line:(apos.endLine == cpos.line)=true
 trees:backTo cpos (starEach [e] X.env)=[(false,eval e X.env)]
noncomputable def IsD (H:Hp)(a:Addr):Prop:=(∃ kvs,Rd H a (.dK kvs))∨∃ kvs,Rd H a (.dT kvs)
theorem b6b {X:Cx}{pins:List (Addr×Obj)}{σ:St}{H:Hp}{s:Shared}{a:Addr}(I:Inv X pins σ H s)(d:IsD H a):
  s.TypeIs (.ref a) "dict"∧(∀ b,Value.ref a=.ref b→∃ ob,s.heap.get? b=some ob∧ob.dict=none)∧(a == sysModules)=false:=by
 refine Or.elim (d) (fun Z0=>g8 (Z0) fun kvs e=>?_) fun Z1=>g8 (Z1) fun kvs e=>?_
 ·refine n8 (W2 I.hok e) fun _ hd Z9=>c6 Z9 fun vs _ dd=>?_
  refine ⟨dd.typeIs,fun b q=>?_,hd⟩
  cases q
  refine E5 (dd) fun ob _ _ h1 h2 _=>?_
  exact ⟨ob,h1,h2.2.1⟩
 ·refine n8 (a4f I.hok e) fun _ hd Z9=>c6 Z9 fun xs _ dd=>?_
  refine ⟨dd.typeIs,fun b q=>?_,hd⟩
  cases q
  refine E5 (dd) fun ob _ _ h1 h2 _=>?_
  exact ⟨ob,h1,h2.2.1⟩
section
variable {X:Cx}{pins:List (Addr×Obj)}{σ:St}{H:Hp}{s:Shared}{a:Addr}{y d:V}{u r:Value}{o:Option V}{A:Around}{E:Value→Shared→Prop}
theorem a8Z {Q:Value→Shared→Prop}(hu:A.units + 1 < cLine)(I:Inv X pins σ H s)(g:a0P H a y o)(ry:RelV y u)(h:∀ w' s',Inv X pins σ H s'→RelV (o.getD .w6) w'→Q w' s'):
  wpAny (model X.prog X.w) A (call (.builtin "dict.get") [.ref a,u]) Q E s:=by
 refine Or.elim (g) (fun Z0=>i9 (Z0) fun kvs k e ey l=>?_) fun Z1=>n6 (Z1) fun kvs k b e ey eb l=>?_
 ·subst ey
  refine n8 (W2 I.hok e) fun z hd Z9=>c6 Z9 fun vs rel dd=>?_
  refine call_meetsIn PySem.F.slot_dict_get dd.typeIs PySem.F.entry_dict_get (PySem.F.args_dict_get_2 _ _) (meets_dict_get (x8 X.prog X.w) a (a3c ry) hd) ⟨_,dd.mapOf,h _ _ (I.tok _) ?_⟩
  rw [l]
  exact (rel.val k).getD rfl
 ·subst ey
  cases (show u=Value.ref b from ry)
  refine n8 (a4f I.hok e) fun z hd Z9=>c6 Z9 fun xs rel dd=>?_
  refine call_meetsIn PySem.F.slot_dict_get dd.typeIs PySem.F.entry_dict_get (PySem.F.args_dict_get_2 _ _) (meetsH_dict_get (tupleKind (x8 X.prog X.w)) a b hd) ⟨tupleKind_room_in1 hu,k,xs,a2O I.hok eb,dd,h _ _ (I.tok _) ?_⟩
  rw [l]
  exact (rel.val k).getD rfl
end
noncomputable def b5C (td ty:TE):TE:=fun σ H Q=>td σ H fun x H1=>∃ a,x=.ref a∧IsD H1 a∧ty σ H1 fun y H2=>∃ o,a0P H2 a y o∧Q (o.getD .w6) H2
section
variable {X:Cx}{o e f:Expr}{apos cpos:Pos}{td ty tx:TE}
theorem b2u (hu:X.A.units + 1 < cLine)(ho:PE X o td)(he:PE X e ty)(m:M1 X o "get" apos e cpos):PE X (.Call (.Attribute o "get" apos) [e] [] cpos) (b5C td ty):=by
 intro pins s σ H Q I h
 refine wpAny_Call_method m.base m.few m.line PySem.F.plainAttrs_dict PySem.F.slot_dict_get PySem.F.type_dict_get (E6 (ho pins s σ H _ I h) fun u s1 Z9=>i9 Z9 fun x H1 I1 rx Z9=>j7 Z9 fun a ex d q1=>?_)
 subst ex
 obtain rfl:u=Value.ref a:=rx
 refine n8 (b6b I1 d) fun t1 t2 _=>?_
 refine ⟨t1,t2,?_⟩
 rw [m.trees]
 refine Calls.callWith_builtin rfl (Calls.evalArgs_plain (Calls.spliced_cons (E6 (he pins s1 σ H1 _ I1 q1) fun iv s2 Z9=>i9 Z9 fun y H2 I2 ry Z9=>c6 Z9 fun ov g q2=>Calls.spliced_nil ?_)))
 exact a8Z hu I2 g ry fun w' s3 I3 rw'=>⟨_,H2,I3,rw',q2⟩
end
end L2
set_option Elab.async false
set_option linter.all false
set_option maxRecDepth 100000
set_option maxHeartbeats 4000000
namespace L2
open PySem PySem.Spec PyProof.Rows
theorem a1D {env:Env}:∀ (names:List (Str×NameKind)) (cs:List (Str×Addr)),(∀ n,(n,NameKind.free)∈names→∃ c,env.cells.lookup n=some c)→(∀ n c,cs.lookup n=some c→env.cells.lookup n=some c)→
  ∃ cl,(forIn names cs (fun x r=>match x with | (name,kind)=>if (kind == NameKind.free)=true then do
   let c ← cellOf env name
   pure (ForInStep.yield ((name,c)::r)) else pure (ForInStep.yield r)):Sem (List (Str×Addr)))=pure cl∧(∀ n c,cl.lookup n=some c→env.cells.lookup n=some c)∧(∀ n,(n,NameKind.free)∈names→∃ c,cl.lookup n=some c)∧(∀ n c,cs.lookup n=some c→∃ c',cl.lookup n=some c')
 | [],cs,_,h2=>⟨cs,rfl,h2,fun _ h=>by simp at h,fun n c h=>⟨c,h⟩⟩
 | (name,kind)::rest,cs,h1,h2=>by
  have h1':∀ n,(n,NameKind.free)∈rest→∃ c,env.cells.lookup n=some c:=fun n h=>h1 n (List.mem_cons_of_mem _ h)
  rw [List.forIn_cons]
  by_cases hk:kind=NameKind.free
  ·subst hk
   refine g8 (h1 name List.mem_cons_self) fun c hc=>?_
   have h2':∀ n c',((name,c)::cs).lookup n=some c'→env.cells.lookup n=some c':=fun n c' h=>by
    rw [List.lookup_cons] at h
    cases hb:n == name with
    | true=>
     rw [hb] at h
     have e:n=name:=eq_of_beq hb
     subst e
     have e2:c=c':=by simpa using h
     subst e2
     exact hc
    | false=>
     rw [hb] at h
     exact h2 n c' h
   refine a5J (a1D rest ((name,c)::cs) h1' h2') fun cl e a b d=>?_
   refine ⟨cl,?_,a,fun n hn=>?_,fun n c' h=>?_⟩
   ·have hcell:cellOf env name=pure c:=by unfold cellOf; rw [hc]
    simp only [beq_self_eq_true,if_true,hcell,pure_bind]
    exact e
   ·refine Or.elim (List.mem_cons.mp hn) (fun hn=>?_) fun hn=>?_
    ·have e3:n=name:=(Prod.mk.inj hn).1
     subst e3
     exact d n c (by simp [List.lookup_cons])
    ·exact b n hn
   ·cases hb:n == name with
    | true=>exact d n c (by rw [List.lookup_cons,hb])
    | false=>exact d n c' (by rw [List.lookup_cons,hb]; exact h)
  ·have hb:(kind == NameKind.free)=false:=by simpa using hk
   refine a5J (a1D rest cs h1' h2) fun cl e a b d=>?_
   refine ⟨cl,?_,a,fun n hn=>?_,d⟩
   ·simp only [hb,Bool.false_eq_true,if_false,pure_bind]
    exact e
   ·refine Or.elim (List.mem_cons.mp hn) (fun hn=>?_) fun hn=>?_
    ·exact absurd (Prod.mk.inj hn).2.symm hk
    ·exact b n hn
theorem a8F {scope:Scope}{env:Env}(h:∀ n,(n,NameKind.free)∈scope.names→∃ c,env.cells.lookup n=some c):
  ∃ cl,closureFor scope env=pure cl∧(∀ n c,cl.lookup n=some c→env.cells.lookup n=some c)∧(∀ n,(n,NameKind.free)∈scope.names→∃ c,cl.lookup n=some c):=by
 refine a5J (a1D (env:=env) scope.names [] h (fun n c h=>by simp at h)) fun cl e a b _=>?_
 refine ⟨cl,?_,a,b⟩
 unfold closureFor
 have e':=congrArg (fun (m:Sem (List (Str×Addr)))=>m >>= fun cs=>pure cs) e
 simp only [pure_bind] at e'
 exact e'
noncomputable abbrev Cx.blk (X:Cx)(scope:Scope)(cl:List (Str×Addr))(C:Addr)(M:List Str)(s:Shared)(H:Hp)(ex:List Addr):Cx:=
 { X with N:=M,s₀:=s,H₀:=H,env:=compEnvC scope cl C X.env,outer:=X.stack,stack:=X.stack,ex:=ex,fn:=fun y=>scope.names.lookup y == some .cell,pn:=[],xe:=fun _ _=>False }
structure Blk (X:Cx) (scope:Scope) (M:List Str) (own:Nat) (fr:List Nat):Prop where
 kind:scope.kind=.function
 cells:∀ y∈scope.names,y.2=.cell→scope.names.lookup y.1=some .cell
 names:∀ y∈scope.names,y.2=.local→scope.names.lookup y.1=some .local
 free:∀ y∈scope.names,y.2=.free→X.env.kindOf y.1=some .cell∨X.env.kindOf y.1=some .free
 nd:M.Nodup
 len:M.length=own + fr.length
 at':∀ i j,fr[i]?=some j→M[own + i]?=X.N[j]?∧∃ n,X.N[j]?=some n∧scope.names.lookup n=some .free∧(X.env.kindOf n=some .cell∨X.env.kindOf n=some .free)
noncomputable def seen (own:Nat)(fr:List Nat)(σ:St):St:=List.replicate own none++fr.map fun j=>(σ[j]?).join
theorem a0r {g:Str×NameKind→Str×NameKind}(hg:∀ p,(g p).1=p.1):∀ (names:List (Str×NameKind)) (n:Str),(names.map g).lookup n=(names.lookup n).map fun k=>(g (n,k)).2
 | [],_=>rfl
 | (m,k)::r,n=>by
  have e:g (m,k)=(m,(g (m,k)).2):=Prod.ext (hg (m,k)) rfl
  rw [List.map_cons,e]
  by_cases hx:n=m
  ·subst hx
   simp [List.lookup_cons]
  ·have hb:(n == m)=false:=by simpa using hx
   simp only [List.lookup_cons,hb]
   exact a0r hg r n
theorem Y7 (scope:Scope)(env:Env):∃ g:Str×NameKind→Str×NameKind,(relabel scope env).names=scope.names.map g∧(∀ p,(g p).1=p.1)∧∀ n k,(g (n,k)).2=k∨(k=.free∧(g (n,k)).2=.cell):=by
 refine ⟨_,rfl,fun p=>?_,fun n k=>?_⟩
 ·obtain ⟨n,k⟩:=p
  dsimp only
  split <;> rfl
 ·dsimp only
  by_cases hc:(k == NameKind.free && env.scope.kind == ScopeKind.function && env.kindOf n == some NameKind.cell)=true
  ·rw [if_pos hc]
   refine .inr ⟨?_,rfl⟩
   simp only [Bool.and_eq_true] at hc
   exact eq_of_beq hc.1.1
  ·rw [if_neg hc]
   exact .inl rfl
theorem a6x {scope:Scope}{env:Env}{n:Str}(h:scope.names.lookup n=some .free):(relabel scope env).names.lookup n=some .free∨(relabel scope env).names.lookup n=some .cell:=by
 refine j7 (Y7 scope env) fun g e h1 h2=>?_
 rw [e,a0r h1,h]
 refine Or.elim (h2 n .free) (fun q=>?_) fun Z1=>f9 (Z1) fun _ q=>?_
 ·exact .inl (by show some (g (n,.free)).2=_; rw [q])
 ·exact .inr (by show some (g (n,.free)).2=_; rw [q])
theorem a29 {scope:Scope}{env:Env}{n:Str}(h:scope.names.lookup n=some .cell):(relabel scope env).names.lookup n=some .cell:=by
 refine j7 (Y7 scope env) fun g e h1 h2=>?_
 rw [e,a0r h1,h]
 refine Or.elim (h2 n .cell) (fun q=>?_) fun Z1=>f9 (Z1) fun q _=>?_
 ·show some (g (n,.cell)).2=_
  rw [q]
 ·cases q
theorem a6n {scope:Scope}{env:Env}{n:Str}(h:(relabel scope env).names.lookup n=some .cell∨(relabel scope env).names.lookup n=some .free):(n,NameKind.free)∈scope.names∨(n,NameKind.cell)∈scope.names:=by
 refine j7 (Y7 scope env) fun g e h1 h2=>?_
 rw [e,a0r h1] at h
 cases hk:scope.names.lookup n with
 | none=>rw [hk] at h; rcases h with h | h <;> cases h
 | some k=>
  have hm:=PySem.mem_of_lookup hk
  rw [hk] at h
  have h':(g (n,k)).2=.cell∨(g (n,k)).2=.free:=by
   refine Or.elim (h) (fun h=>?_) fun h=>?_
   ·exact .inl (Option.some.inj h)
   ·exact .inr (Option.some.inj h)
  refine Or.elim (h2 n k) (fun q=>?_) fun Z1=>f9 (Z1) fun q _=>?_
  ·refine Or.elim (h') (fun z=>?_) fun z=>?_
   ·rw [q.symm.trans z] at hm; exact .inr hm
   ·rw [q.symm.trans z] at hm; exact .inl hm
  ·rw [q] at hm; exact .inl hm
theorem A2:∀ (names:List (Str×NameKind)) (n:Nat) (acc:List (Str×Addr)),cellsFrom n names acc=cellsFrom n names []++acc
 | [],_,_=>rfl
 | (x,k)::r,n,acc=>by
  unfold cellsFrom
  split
  ·rw [A2 r (n + 1) ((x,n)::acc),A2 r (n + 1) [(x,n)],List.append_assoc]
   rfl
  ·exact A2 r n acc
theorem T9:∀ (names:List (Str×NameKind)) (n:Nat) (x:Str) (c:Addr),(x,c)∈cellsFrom n names []→(x,NameKind.cell)∈names
 | [],_,_,_,h=>by cases h
 | (y,k)::r,n,x,c,h=>by
  unfold cellsFrom at h
  split at h
  ·rename_i hk
   rw [A2] at h
   refine Or.elim (List.mem_append.mp h) (fun h=>?_) fun h=>?_
   ·exact List.mem_cons_of_mem _ (T9 r (n + 1) x c h)
   ·have e:=List.mem_singleton.mp h
    cases e
    rw [eq_of_beq hk]
    exact List.mem_cons_self
  ·exact List.mem_cons_of_mem _ (T9 r n x c h)
theorem Q0:∀ (names:List (Str×NameKind)) (n:Nat) (x:Str),(x,NameKind.cell)∈names→∃ c,(x,c)∈cellsFrom n names []
 | [],_,_,h=>by cases h
 | (y,k)::r,n,x,h=>by
  unfold cellsFrom
  refine Or.elim (List.mem_cons.mp h) (fun h=>?_) fun h=>?_
  ·cases h
   rw [if_pos (by rfl),A2]
   exact ⟨n,List.mem_append_right _ (List.mem_singleton.mpr rfl)⟩
  ·split
   ·refine g8 (Q0 r (n + 1) x h) fun c hc=>?_
    rw [A2]
    exact ⟨c,List.mem_append_left _ hc⟩
   ·exact Q0 r n x h
theorem Y3 {x:Str}:∀ {l:List (Str×Addr)} {c:Addr},(x,c)∈l→∃ c',l.lookup x=some c'
 | (k,v)::r,c,h=>by
  rw [List.lookup_cons]
  cases hb:x == k with
  | true=>exact ⟨v,rfl⟩
  | false=>
   refine Or.elim (List.mem_cons.mp h) (fun e=>?_) fun h=>?_
   ·cases e
    simp at hb
   ·exact Y3 h
theorem a1G {scope:Scope}{n:Nat}{cl:List (Str×Addr)}{x:Str}{c:Addr}(h:(cellsFrom n scope.names cl).lookup x=some c):((x,c)∈cellsFrom n scope.names []∧(cellsFrom n scope.names []).lookup x=some c)∨cl.lookup x=some c:=by
 rw [A2,List.lookup_append] at h
 cases e:(cellsFrom n scope.names []).lookup x with
 | some c'=>
  rw [e] at h
  cases h
  exact .inl ⟨mem_of_lookup e,rfl⟩
 | none=>rw [e] at h; exact .inr h
theorem a7M {scope:Scope}{n:Nat}{cl:List (Str×Addr)}{x:Str}(h:(x,NameKind.cell)∈scope.names∨∃ c,cl.lookup x=some c):∃ c,(cellsFrom n scope.names cl).lookup x=some c:=by
 rw [A2,List.lookup_append]
 cases e:(cellsFrom n scope.names []).lookup x with
 | some c'=>exact ⟨c',rfl⟩
 | none=>
  refine Or.elim (h) (fun h=>?_) fun Z1=>g8 (Z1) fun c h=>?_
  ·refine g8 (Q0 scope.names n x h) fun c hc=>?_
   refine g8 (Y3 hc) fun c' e'=>?_
   rw [e] at e'
   cases e'
  ·exact ⟨c,h⟩
theorem a8i {M:Model}{A:Around}{E:Value→Shared→Prop}{s:Shared}{scope:Scope}{env:Env}{cl:List (Str×Addr)}{Q:Env→Shared→Prop}
  (h:Q { scope,locals:=s.heap.objs.size,globals:=env.globals,cells:=cellsFrom (s.heap.objs.size + 1) scope.names cl,qual:=env.qual,func:=none,code:=env.code,frame:=env.frame,builtins:=env.builtins } { s with heap:=pushCells (s.heap.push { cls:=.type "dict",data:=.dict #[] }) scope.names }):
  wpAny M A (newFunctionEnv scope env.globals cl [] env.qual none .none (some env)) Q E s:=by
 simp only [newFunctionEnv,Option.isSome_some,if_true]
 refine wpAny_bind (wpAny_alloc ?_)
 refine wpAny_bind (wpAny_layCells _ (fun name kind cells=>by cases hkc:kind == NameKind.cell <;> simp [hkc]) _ _ _ _ ?_)
 rw [show ({ s with heap:=s.heap.push { cls:=.type "dict",data:=.dict #[] } }:Shared).heap.objs.size=s.heap.objs.size + 1 from Heap.size_push ..]
 exact wpAny_pure h
noncomputable def PF (X:Cx)(ifs:List Expr)(t:TT):Prop:=
 ∀ (pins:List (Addr×Obj)) (s:Shared) (σ:St) (H:Hp) (Q:Bool→Hp→Prop),Inv X pins σ H s→t σ H Q→
  wpAny (model X.prog X.w) X.A (forIn ifs true fun c r=>if r=true then do let ok ← isTrue c X.env (eval c X.env); pure (ForInStep.yield ok) else pure (ForInStep.yield r)) (TP X pins σ Q) X.xe s
noncomputable def b9C:TT:=fun _ H Q=>Q true H
theorem b5I {X:Cx}:PF X [] b9C:=fun _ _ _ H _ I h=>wpAny_tests_nil ⟨H,I,h⟩
theorem b5N {X:Cx}{c:Expr}{t:TT}(h:PT X c t):PF X [c] t:=fun pins s σ H Q I hq=>wpAny_tests_one (h pins s σ H Q I hq)
section
variable {prog:Program}{w:World}{A:Around}{R:Result→Shared→Prop}{s:Shared}
theorem a6i {elt target iter:Expr}{ifs:List Expr}{scope:Scope}{pos:Pos}{it acc:Value}{env:Env}(I:Nat→Shared→Prop)
  (turn:∀ n s,I n s→wpAny (model prog w) A (pyNext it) (fun r s1=>match r with
   | none=>R (.ok .next) s1
   | some v=>wpAny (model prog w) A (letOwnedTupleGo target it v) (fun _ s1'=>wpAny (model prog w) A (assign target env v) (fun _ s2=>
     wpAny (model prog w) A (forIn ifs true fun c r=>if r=true then do let ok ← isTrue c env (eval c env); pure (ForInStep.yield ok) else pure (ForInStep.yield r)) (fun ok s3=>
      if ok=true then wpAny (model prog w) A (eval elt env) (fun x s4=>
       wpAny (model prog w) A (call (.builtin "list.append") [acc,x]) (fun _ s5=>∃ m,m < n∧I m s5) (fun _ _=>False) s4) (fun _ _=>False) s3
      else ∃ m,m < n∧I m s3) (fun _ _=>False) s2) (fun _ _=>False) s1') (fun _ _=>False) s1) (fun _ _=>False) s)
  (n:Nat) (h:I n s):
  codeAny (model prog w) A (.compLoop (.ListComp elt [⟨target,iter,ifs,0⟩] scope pos) 0 it acc env) R s:=by
 refine codeAny_loop rfl I (fun n s hI=>?_) n h
 show wpAny _ A ((compTurn (.ListComp elt [⟨target,iter,ifs,0⟩] scope pos) 0 it acc env).onRaise (fun x=>do noteFrame x env; theTreesLotGoes x)) _ _ s
 refine wpAny_noted ?_
 rw [compTurn_list]
 refine wpAny_bind (wpAny_standAt (wpAny_bind (wpAny_mono (turn n s hI) (fun r s1 h1=>?_) fun _ _ h'=>h'.elim)))
 cases r with
 | none=>exact wpAny_pure h1
 | some v=>
  refine wpAny_bind (wpAny_mono h1 (fun _ s1' h1'=>?_) fun _ _ h'=>h'.elim)
  refine wpAny_bind (wpAny_mono h1' (fun _ s2 h2=>wpAny_bind (wpAny_mono h2 (fun ok s3 h3=>?_) fun _ _ h'=>h'.elim)) fun _ _ h'=>h'.elim)
  cases ok with
  | false=>exact wpAny_pure ⟨rfl,h3⟩
  | true=>
   exact wpAny_bind (wpAny_bind (wpAny_mono h3 (fun x s4 h4=>wpAny_bind (wpAny_mono h4 (fun _ s5 h5=>wpAny_pure (wpAny_pure ⟨rfl,h5⟩)) fun _ _ h'=>h'.elim)) fun _ _ h'=>h'.elim))
end
noncomputable def a6R (own:Nat)(fr:List Nat)(g:TG):Prop:=∀ x σ H R,g x (seen own fr σ) H R→g x (seen own fr σ) H fun σ2 H3=>(∀ (i:Nat) v,(seen own fr σ)[i]?=some (some v)→σ2[i]?=some (some v))∧R σ2 H3
noncomputable def b6E (J:It)(g:TG)(tf:TT)(te:TE)(own:Nat)(fr:List Nat)(σ:St)(Q:VK)(H1:Hp):Prop:=
 ∃ W:Nat→Nat→List V→Hp→Prop,(∃ m,W 0 m [] H1)∧∀ i m ys H2,W i m ys H2→
  (J.stop i H2∧∀ p,H2 p=none→Q (.ref p) (upd H2 p (.lst ys)))∨
  (J.go i H2∧ys.length < sizeLine∧∃ N:List V→Hp→Prop,(∀ ys' H',N ys' H'→∃ m',m' < m∧W (i + 1) m' ys' H')∧
   ∀ x H',J.yld i H2 x H'→g x (seen own fr σ) H' fun σ2 H3=>tf σ2 H3 fun c H4=>if c=true then te σ2 H4 fun y H5=>N (ys++[y]) H5 else N ys H4)
noncomputable def a5M (wi:TI)(g:TG)(tf:TT)(te:TE)(own:Nat)(fr:List Nat):TE:=fun σ H Q=>wi σ H fun J H1=>b6E J g tf te own fr σ Q H1
section
variable {X:Cx}{pins:List (Addr×Obj)}{σ:St}{H H2:Hp}{s s2:Shared}
theorem a7o {own:Nat}{fr:List Nat}{σ:St}{i:Nat}{v:V}(h:(seen own fr σ)[i]?=some (some v)):∃ k j,i=own + k∧fr[k]?=some j∧σ[j]?=some (some v):=by
 unfold seen at h
 by_cases hi:i < own
 ·rw [List.getElem?_append_left (by simpa using hi),List.getElem?_replicate,if_pos hi] at h
  cases h
 ·rw [List.getElem?_append_right (by simpa using hi)] at h
  simp only [List.length_replicate,List.getElem?_map] at h
  cases e:fr[i - own]? with
  | none=>rw [e] at h; cases h
  | some j=>
   rw [e] at h
   simp only [Option.map_some,Option.some.injEq] at h
   refine ⟨i - own,j,by omega,e,?_⟩
   cases q:σ[j]? with
   | none=>rw [q] at h; cases h
   | some o=>
    rw [q] at h
    have h':o=some v:=h
    rw [h']
theorem seen_length (own:Nat)(fr:List Nat)(σ:St):(seen own fr σ).length=own + fr.length:=by
 unfold seen
 rw [List.length_append,List.length_replicate,List.length_map]
theorem a9U {own:Nat}{fr:List Nat}{i:Nat}(hi:i < own):a6R own fr (a27 i):=fun x σ H R h=>⟨fun k v e=>by
 refine l6 (a7o e) fun j _ Z1 _=>?_; subst Z1
 rw [List.getElem?_set_ne (by omega)]
 exact e,h⟩
theorem Inv.block {scope:Scope}{M:List Str}{own:Nat}{fr:List Nat}{cl:List (Str×Addr)}{h1:Heap}{fp:List Addr}{t1:Nat}(B:Blk X scope M own fr)(I:Inv X pins σ H2 s2)
  (cl1:∀ n c,cl.lookup n=some c→X.env.cells.lookup n=some c∨(scope.names.lookup n=some .cell∧s2.heap.objs.size + 1 < c∧h1.IsCell c none)) (cl3:∀ n n' c,cl.lookup n=some c→cl.lookup n'=some c→s2.heap.objs.size + 1 < c→n=n') (cl2:∀ n,(n,NameKind.free)∈scope.names∨(n,NameKind.cell)∈scope.names→∃ c,cl.lookup n=some c)
  (cl4:∀ n c,cl.lookup n=some c→scope.names.lookup n=some .cell→s2.heap.objs.size + 1 < c)
  (hfp:∀ b∈fp,a39 X pins H2 b∧b < s2.heap.objs.size)
  (hns:h1.Ns (s2.heap.objs.size + 1) fun _=>none) (hsb:∀ b o,b < s2.heap.objs.size + 1→(s2.heap.push { cls:=.type "list",data:=.seq ([]:List Value).toArray }).get? b=some o→h1.get? b=some o):
  Inv (X.blk scope cl (s2.heap.objs.size + 1) M { s2 with heap:=s2.heap.push { cls:=.type "list",data:=.seq ([]:List Value).toArray } } H2 (s2.heap.objs.size::fp))
   [(s2.heap.objs.size,{ cls:=.type "list",data:=.seq ([]:List Value).toArray })] (seen own fr σ) H2 { s2 with heap:=h1,toks:=t1 }:=by
 have hpush:∀ b o,s2.heap.get? b=some o→(s2.heap.push { cls:=.type "list",data:=.seq ([]:List Value).toArray }).get? b=some o:=fun b o e=>Heap.get?_push_of_some _ e
 have old:∀ b o,s2.heap.get? b=some o→h1.get? b=some o:=fun b o e=>hsb b o (Nat.lt_succ_of_lt (Heap.lt_size e)) (hpush b o e)
 have hD:h1.get? s2.heap.objs.size=some { cls:=.type "list",data:=.seq ([]:List Value).toArray }:=hsb _ _ (Nat.lt_succ_self _) (Heap.get?_push_size _ rfl)
 have hHD:H2 s2.heap.objs.size=none:=I.hok.fresh (Nat.le_refl _)
 have hHC:H2 (s2.heap.objs.size + 1)=none:=I.hok.fresh (Nat.le_succ _)
 have cellLt:∀ x c,X.env.cells.lookup x=some c→c < s2.heap.objs.size:=fun x c e=>by
  refine g8 (I.cell x c e) fun v q=>?_
  exact q.lt
 have szp:(s2.heap.push { cls:=.type "list",data:=.seq ([]:List Value).toArray }).objs.size=s2.heap.objs.size + 1:=Heap.size_push _ _
 have Ok:(X.blk scope cl (s2.heap.objs.size + 1) M { s2 with heap:=s2.heap.push { cls:=.type "list",data:=.seq ([]:List Value).toArray } } H2 (s2.heap.objs.size::fp)).Ok:=by
  refine ⟨I.ok.mod,B.kind,I.ok.glob,I.ok.blt,?_,?_,?_,?_,I.ok.hd,I.ok.frames,.inl rfl,?_,?_,?_,?_,?_,?_,?_⟩
  ·show (s2.heap.push _).objs.size≤s2.heap.objs.size + 1
   rw [szp]
   exact Nat.le_refl _
  ·intro x y c e1 e2
   refine Or.elim (cl1 _ _ e1) (fun q1=>?_) fun Z1=>n8 (Z1) fun _ q1 _=>?_
   ·refine Or.elim (cl1 _ _ e2) (fun q2=>?_) fun Z1=>n8 (Z1) fun _ q2 _=>?_
    ·exact I.ok.inj x y c q1 q2
    ·exact absurd (Nat.lt_trans (Nat.lt_succ_of_lt (cellLt x c q1)) q2) (Nat.lt_irrefl _)
   ·exact cl3 x y c e1 e2 q1
  ·intro x hx
   exact cl2 x (a6n hx)
  ·intro x c hx e
   have q:=cl4 x c e (eq_of_beq hx)
   show (s2.heap.push _).objs.size≤c
   rw [szp]
   omega
  ·intro b hb
   rcases List.mem_cons.mp hb with rfl | hb
   ·refine ⟨Nat.ne_of_lt (Nat.lt_succ_self _),fun x c e=>?_⟩
    refine Or.elim (cl1 _ _ e) (fun q=>?_) fun Z1=>n8 (Z1) fun _ q _=>?_
    ·exact Nat.ne_of_lt (cellLt x c q)
    ·exact Nat.ne_of_gt (Nat.lt_trans (Nat.lt_succ_self _) q)
   ·refine ⟨Nat.ne_of_lt (Nat.lt_succ_of_lt (hfp b hb).2),fun x c e=>?_⟩
    refine Or.elim (cl1 _ _ e) (fun q=>?_) fun Z1=>n8 (Z1) fun _ q _=>?_
    ·exact (hfp b hb).1.2.2.2.2.1 x c q
    ·exact Nat.ne_of_gt (Nat.lt_trans (Nat.lt_succ_of_lt (hfp b hb).2) q)
  ·intro b o e
   exact ⟨hpush b o (I.bs b o e).1,(I.bs b o e).2⟩
  ·show X.base.objs.size≤(s2.heap.push _).objs.size
   rw [szp]
   exact Nat.le_succ_of_le (Nat.le_trans I.ok.bsz I.sz)
  ·intro b o e hb
   rcases List.mem_cons.mp hb with rfl | hb
   ·exact absurd (Heap.lt_size (I.bs _ _ e).1) (Nat.lt_irrefl _)
   ·have q:=(hfp b hb).1.2.2.2.1
    refine Or.elim (q) (fun q=>?_) fun q=>?_
    ·exact I.ok.noex b o e q
    ·exact absurd (Nat.lt_of_lt_of_le (Heap.lt_size (I.ok.bs b o e).1) q) (Nat.lt_irrefl _)
  ·intro b hb hf
   have hf':b∈frs X.stack:=hf
   rcases List.mem_cons.mp hb with rfl | hb
   ·refine Or.elim (List.mem_cons.mp (I.a2J _ hf')) (fun e=>?_) fun e=>?_
    ·exact absurd I.lt (by rw [← e]; exact Nat.lt_irrefl _)
    ·exact I.b6T (Nat.le_refl _) e
   ·refine Or.elim (List.mem_cons.mp (I.a2J _ hf')) (fun e=>?_) fun e=>?_
    ·exact (hfp b hb).1.2.1 e
    ·exact (hfp b hb).1.2.2.1 e
  ·have q:=I.stack
   have all:∀ (l:List Env),s2.heap.FunFrames X.base l→(s2.heap.push { cls:=.type "list",data:=.seq ([]:List Value).toArray }).FunFrames X.base l:=by
    intro l
    induction l with
    | nil=>intro _; trivial
    | cons env r ih=>
     intro hl
     refine n8 (hl) fun hk Z1 hr=>?_; refine R8 (Z1) fun L o hf hn ho hd=>?_
     exact ⟨hk,⟨L,o,hf,hn,hpush L o ho,hd⟩,ih hr⟩
   exact all _ q
  ·intro b hb
   exact I.a9t b hb
 refine ⟨Ok,rfl,I.bare,?_,?_,?_,hHC,?_,?_,I.hok.kept old,?_⟩
 ·refine Un.kept fun b u e=>?_
  exact hsb b u (by have:=Heap.lt_size e; rw [szp] at this; exact this) e
 ·refine ⟨_,hns,fun i x v e1 e2 e3=>?_⟩
  refine i9 (a7o e2) fun k j Z1 hk hv=>?_; subst Z1
  refine f9 (B.at' k j hk) fun e4 Z9=>j7 Z9 fun n e5 hfree hcell=>?_
  have ex:x=n:=by
   have e1':M[own + k]?=some x:=e1
   rw [e4,e5] at e1'
   exact (Option.some.inj e1').symm
  subst ex
  refine c6 (I.loc) fun m _ hl=>?_
  have hvis:Vis X.env.scope x:=by
   refine Or.elim (hcell) (fun h=>?_) fun h=>?_
   ·exact .inr (.inl h)
   ·exact .inr (.inr h)
  refine c6 (hl j x v e5 hv hvis) fun u ru lk=>?_
  refine ⟨u,ru,.inr ⟨?_,?_⟩⟩
  ·have q:=a6x (scope:=scope) (env:=X.env) hfree
   exact q.symm
  ·have hcell':∃ c,X.env.cells.lookup x=some c∧s2.heap.IsCell c (some u):=by
    refine Or.elim (lk) (fun Z0=>f9 (Z0) fun q _=>?_) fun Z1=>f9 (Z1) fun _ q=>?_
    ·refine Or.elim (hcell) (fun h=>?_) fun h=>?_
     ·rw [h] at q; cases q
     ·rw [h] at q; cases q
    ·exact q
   refine c6 (hcell') fun c e6 e7=>?_
   refine g8 (cl2 x (.inl (PySem.mem_of_lookup hfree))) fun c' e8=>?_
   refine Or.elim (cl1 x c' e8) (fun e9=>?_) fun Z1=>f9 (Z1) fun e9 _=>?_
   ·rw [e6] at e9
    cases e9
    refine c6 (e7) fun o ho hd=>?_
    exact ⟨c,e8,o,old c o ho,hd⟩
   ·rw [hfree] at e9
    cases e9
 ·intro x c e
  refine Or.elim (cl1 _ _ e) (fun q=>?_) fun Z1=>n8 (Z1) fun _ _ q=>?_
  ·refine l6 (I.cell x c q) fun v o ho hd=>?_
   exact ⟨v,o,old c o ho,hd⟩
  ·exact ⟨_,q⟩
 ·intro x c e
  refine Or.elim (cl1 _ _ e) (fun q=>?_) fun Z1=>n8 (Z1) fun _ q _=>?_
  ·exact I.freeC x c q
  ·exact I.hok.fresh (by omega)
 ·intro p hp
  have e:p=(s2.heap.objs.size,{ cls:=.type "list",data:=.seq ([]:List Value).toArray }):=List.mem_singleton.mp hp
  subst e
  refine ⟨hD,hHD,Nat.ne_of_lt (Nat.lt_succ_self _),fun hf=>?_,fun v z=>?_⟩
  ·refine Or.elim (List.mem_cons.mp (I.a2J _ hf)) (fun e=>?_) fun e=>?_
   ·exact absurd I.lt (by rw [← e]; exact Nat.lt_irrefl _)
   ·exact I.b6T (Nat.le_refl _) e
  ·have z':Data.seq ([]:List Value).toArray _=Data.cell v:=z
   cases z'
 ·rw [seen_length]
  exact B.len.symm
theorem Inv.b1B {scope:Scope}{M:List Str}{cl:List (Str×Addr)}{fp:List Addr}{τ:St}{H':Hp}{s':Shared}{h':Heap}{ys:List V}{its:List Value}{n:Nat}(I:Inv X pins σ H2 s2)
  (hfp:∀ b∈fp,a39 X pins H2 b)
  (J:Inv (X.blk scope cl (s2.heap.objs.size + 1) M { s2 with heap:=s2.heap.push { cls:=.type "list",data:=.seq ([]:List Value).toArray } } H2 (s2.heap.objs.size::fp))
   [(s2.heap.objs.size,{ cls:=.type "list",data:=.seq its.toArray n })] τ H' s')
  (hv:Vals ys its) (hz:ys.length≤sizeLine) (hs:Heap.SameBut (s2.heap.objs.size + 1) s'.heap h'):Inv X pins σ (upd H' s2.heap.objs.size (.lst ys)) { s' with heap:=h' }:=by
 refine a1t (J.pin _ (List.mem_append_right _ (List.mem_singleton.mpr rfl))) fun eD nD _ _ _=>?_
 have nC:H' (s2.heap.objs.size + 1)=none:=J.free
 have kp:∀ b o,b≠s2.heap.objs.size + 1→s'.heap.get? b=some o→h'.get? b=some o:=fun b o hb e=>(hs.2 b hb).trans e
 have hpush:∀ b o,s2.heap.get? b=some o→(s2.heap.push { cls:=.type "list",data:=.seq ([]:List Value).toArray }).get? b=some o:=fun b o e=>Heap.get?_push_of_some _ e
 have neD:∀ b o,s2.heap.get? b=some o→b≠s2.heap.objs.size:=fun b o e=>Nat.ne_of_lt (Heap.lt_size e)
 have neC:∀ b o,s2.heap.get? b=some o→b≠s2.heap.objs.size + 1:=fun b o e=>Nat.ne_of_lt (Nat.lt_succ_of_lt (Heap.lt_size e))
 have hex:∀ b o,s2.heap.get? b=some o→b∉fp→b∉s2.heap.objs.size::fp:=fun b o e h z=>(List.mem_cons.mp z).elim (neD b o e) h
 have neT:∀ b u,H' b=some u→b≠s2.heap.objs.size:=fun b u e z=>by rw [z,nD] at e; cases e
 have neTC:∀ b u,H' b=some u→b≠s2.heap.objs.size + 1:=fun b u e z=>by rw [z,nC] at e; cases e
 refine I.b8e (s':={ s' with heap:=h' }) (ch:=fp) J.os ?_ ?_ J.bare fun b hb=>?_
 ·refine ⟨fun b o e n hb hx=>?_,fun b o e n hb hx=>?_,fun b o e n hx=>?_,fun b o e hx=>?_,fun b xs e=>?_,fun b o xs e=>?_,fun b ps e=>?_⟩
  ·exact kp b o (neC b o e) (J.base.keep b o (hpush b o e) n hb (hex b o e hx))
  ·refine g8 (J.base.slot b o (hpush b o e) n hb (hex b o e hx)) fun sl q=>?_
   exact ⟨sl,kp b _ (neC b o e) q⟩
  ·rw [j3 (neD b o e)]
   exact J.base.free b o (hpush b o e) n (hex b o e hx)
  ·refine g8 (J.base.there b o (hpush b o e) (hex b o e hx)) fun o' q=>?_
   exact ⟨o',kp b _ (neC b o e) q⟩
  ·have q:=J.base.tups b xs e
   rw [j3 (neT b _ q)]
   exact q
  ·have q:=J.base.frzs b o xs e
   rw [j3 (neT b _ q)]
   exact q
  ·refine g8 (J.base.tbls b ps e) fun more q=>?_
   rw [j3 (neT b _ q)]
   exact ⟨more,q⟩
 ·intro a o e
  by_cases ha:a=s2.heap.objs.size
  ·subst ha
   rw [l9] at e
   cases e
   exact ⟨hz,its,n,hv,kp _ _ (Nat.ne_of_lt (Nat.lt_succ_self _)) eD⟩
  ·rw [j3 ha] at e
   refine (J.hok a o e).stay (fun c v hc q=>kp c v ?_ q) (fun c q=>by rw [j3 (neT c _ q)]; exact q) fun c xs q=>by rw [j3 (neT c _ q)]; exact q
   rcases hc with rfl | hc
   ·exact neTC c o e
   ·exact neTC c _ hc
 ·refine P0 (hfp b hb) fun f0 f1 f2 f3 f4 f5=>?_
  exact ⟨f3,f1,f4,f5⟩
theorem a84 {E:Value→Shared→Prop}{D:Addr}{its:List Value}{n:Nat}{u:Value}{Q:Value→Shared→Prop}{pr:Program}{w:World}{A:Around}(e:s.heap.get? D=some { cls:=.type "list",data:=.seq its.toArray n }) (hz:its.length≤sizeLine)
  (h:∀ h' n',h'.get? D=some { cls:=.type "list",data:=.seq (its++[u]).toArray n' }→(∀ b o,b≠D→s.heap.get? b=some o→h'.get? b=some o)→Q .none { s with heap:=h' }):
  wpAny (model pr w) A (call (.builtin "list.append") [.ref D,u]) Q E s:=by
 refine call_meets F.slot_list_append ⟨_,e,rfl⟩ F.entry_list_append (F.args_list_append_2 _ _) (PySem.list_append D its.toArray n u (by rw [List.size_toArray]; omega)) ⟨e,?_⟩
 have q:=PySem.IsL.update e (fun xs=>xs.push u)
 have ea:its.toArray.push u=(its++[u]).toArray:=by simp
 have q':(s.heap.update D (Obj.mapSeq fun xs=>xs.push u)).get? D=some { cls:=.type "list",data:=.seq (its++[u]).toArray (if (its.toArray.push u).size == its.toArray.size then n else n + 1) }:=by
  rw [← ea]
  exact q
 exact h _ _ q' fun b o hb eb=>(Heap.get?_update_other s.heap _ (Ne.symm hb)).trans eb
variable {scope:Scope}{M:List Str}{own:Nat}{fr:List Nat}{tg iter elt:Expr}{ifs:List Expr}{pos:Pos}{wi:TI}{g:TG}{tf:TT}{te:TE}
theorem a7k {use:Option (Value→Sem Unit)}{Q':Value→Shared→Prop}{Q:VK}(B:Blk X scope M own fr)(hc:X.calm=true)(hi:PI X tg iter wi)
  (hg:∀ cl C s H ex,PG (X.blk scope cl C M s H ex) tg g) (hk:a6R own fr g) (hf:∀ cl C s H ex,PF (X.blk scope cl C M s H ex) ifs tf) (he:∀ cl C s H ex,PE (X.blk scope cl C M s H ex) elt te)
  (hs:∀ x,foldedSetIterable iter X.env x=pure x) (I:Inv X pins σ H s) (h:a5M wi g tf te own fr σ H Q)
  (fin:∀ (D C:Addr) (H':Hp) (s':Shared),(∃ m,s'.heap.Ns C m)→a39 X pins H' C→Inv X pins σ H' s'→Q (.ref D) H'→compPost (model X.prog X.w) X.A X.xe use Q' (.ref D) C (.ok .next) s'):
  wpAny (model X.prog X.w) X.A (comprehension (.ListComp elt [⟨tg,iter,ifs,0⟩] scope pos) scope X.env (firstIterPos [⟨tg,iter,ifs,0⟩] pos) (newList []) false (eval iter X.env) use) Q' X.xe s:=by
 obtain ⟨cl,hclos,cl1,cl2⟩:=a8F (scope:=scope) (env:=X.env) fun n hn=>I.ok.has n (B.free _ hn rfl)
 refine wpAny_comprehension_free (cl:=cl) rfl hs hclos B.kind B.names ?_
 refine E6 (hi pins s σ H _ I h) fun v s1 h1=>E6 h1 fun itv s2 h2=>?_
 refine a5p (h2) fun it fp tn J H2 e I2 T st2 f2 Z9=>c6 Z9 fun W Z1 turn=>?_; refine g8 (Z1) fun m0 w0=>?_
 subst e
 refine wpAny_newObj_type (a8i ?_)
 dsimp only
 have szp:(s2.heap.push { cls:=.type "list",dict:=none,data:=.seq ([]:List Value).toArray }).objs.size=s2.heap.objs.size + 1:=Heap.size_push _ _
 have hns1:=(Heap.Ns.new (s2.heap.push { cls:=.type "list",dict:=none,data:=.seq ([]:List Value).toArray }) (.type "dict")).keeps (pushCells_keeps scope.names _)
 have hkp1:∀ b o,(s2.heap.push { cls:=.type "list",dict:=none,data:=.seq ([]:List Value).toArray }).get? b=some o→(pushCells ((s2.heap.push { cls:=.type "list",dict:=none,data:=.seq ([]:List Value).toArray }).push { cls:=.type "dict",data:=.dict #[] }) scope.names).get? b=some o:=fun b o e=>pushCells_keeps _ _ b o (Heap.get?_push_of_some _ e)
 have ok1:=cellsFrom_ok scope.names ((s2.heap.push { cls:=.type "list",dict:=none,data:=.seq ([]:List Value).toArray }).push { cls:=.type "dict",data:=.dict #[] }) (s2.heap.objs.size + 2) [] ⟨fun _ _ hm=>(nomatch hm),List.Pairwise.nil⟩ (by rw [Heap.size_push,szp]; exact Nat.le_refl _)
 rw [Heap.size_push,szp] at ok1
 rw [szp] at hns1 ⊢
 generalize pushCells ((s2.heap.push { cls:=.type "list",dict:=none,data:=.seq ([]:List Value).toArray }).push { cls:=.type "dict",data:=.dict #[] }) scope.names=h1 at hns1 hkp1 ok1 ⊢
 have cl3:∀ n n' c,(cellsFrom (s2.heap.objs.size + 1 + 1) scope.names cl).lookup n=some c→(cellsFrom (s2.heap.objs.size + 1 + 1) scope.names cl).lookup n'=some c→s2.heap.objs.size + 1 < c→n=n':=by
  intro n n' c e1 e2 hc'
  refine Or.elim (a1G e1) (fun Z0=>f9 (Z0) fun m1 _=>?_) fun q1=>?_
  ·refine Or.elim (a1G e2) (fun Z0=>f9 (Z0) fun m2 _=>?_) fun q2=>?_
   ·exact name_of_addr ok1.apart m1 m2
   ·refine g8 (I2.cell _ _ (cl1 _ _ q2)) fun v q=>?_
    exact absurd (Nat.lt_trans (Nat.lt_succ_of_lt q.lt) hc') (Nat.lt_irrefl _)
  ·refine g8 (I2.cell _ _ (cl1 _ _ q1)) fun v q=>?_
   exact absurd (Nat.lt_trans (Nat.lt_succ_of_lt q.lt) hc') (Nat.lt_irrefl _)
 have cl4:∀ n c,(cellsFrom (s2.heap.objs.size + 1 + 1) scope.names cl).lookup n=some c→X.env.cells.lookup n=some c∨(scope.names.lookup n=some .cell∧s2.heap.objs.size + 1 < c∧h1.IsCell c none):=by
  intro n c e
  refine Or.elim (a1G e) (fun Z0=>f9 (Z0) fun m1 _=>?_) fun q1=>?_
  ·refine f9 (ok1.empty n c m1) fun a1 a2=>?_
   exact .inr ⟨B.cells _ (T9 _ _ _ _ m1) rfl,by omega,a1⟩
  ·exact .inl (cl1 _ _ q1)
 have cl5:∀ n c,(cellsFrom (s2.heap.objs.size + 1 + 1) scope.names cl).lookup n=some c→scope.names.lookup n=some .cell→s2.heap.objs.size + 1 < c:=by
  intro n c e hn
  refine g8 (Q0 scope.names (s2.heap.objs.size + 1 + 1) n (mem_of_lookup hn)) fun c0 hc0=>?_
  refine g8 (Y3 hc0) fun c' e'=>?_
  rw [A2,List.lookup_append,e'] at e
  cases e
  have:=(ok1.empty n c (mem_of_lookup e')).2
  omega
 have cl6:∀ n,(n,NameKind.free)∈scope.names∨(n,NameKind.cell)∈scope.names→∃ c,(cellsFrom (s2.heap.objs.size + 1 + 1) scope.names cl).lookup n=some c:=fun n h=>a7M (h.symm.imp id (cl2 n))
 generalize cellsFrom (s2.heap.objs.size + 1 + 1) scope.names cl=cx at cl3 cl4 cl5 cl6 ⊢
 have hlt:∀ b∈fp,b < s2.heap.objs.size:=fun b hb=>by
  refine c6 (T.obj _ _ st2 b hb) fun o eo _=>?_
  exact Heap.lt_size eo
 have hsb2:∀ b o,b < s2.heap.objs.size + 1→(s2.heap.push { cls:=.type "list",data:=.seq ([]:List Value).toArray }).get? b=some o→h1.get? b=some o:=fun b o hb e=>
  hkp1 b o e
 have hns2:h1.Ns (s2.heap.objs.size + 1) fun _=>none:=hns1
 have J0:=Inv.block (cl:=cx) (h1:=h1) (fp:=fp) (t1:=s2.toks) B I2 cl4 cl3 cl6 cl5 (fun b hb=>⟨f2 b hb,hlt b hb⟩) hns2 hsb2
 have st1:tn 0 h1:=T.keep _ _ _ st2 fun b hb o e=>hsb2 b o (Nat.lt_succ_of_lt (hlt b hb)) (Heap.get?_push_of_some _ e)
 
 have stat:∀ {H':Hp} {o:Obj},(∀ b∈fp,H' b=none)→∀ b∈fp,a39 (X.blk scope cx (s2.heap.objs.size + 1) M { s2 with heap:=s2.heap.push { cls:=.type "list",data:=.seq ([]:List Value).toArray } } H2 (s2.heap.objs.size::fp)) [(s2.heap.objs.size,o)] H' b:=by
  intro H' o hn b hb
  refine P0 (f2 b hb) fun f0 f1 ff f3 f4 f5=>?_
  refine ⟨hn b hb,Nat.ne_of_lt (Nat.lt_succ_of_lt (hlt b hb)),fun z=>?_,.inl (List.mem_cons_of_mem _ hb),fun x c e=>?_,fun p hp z=>?_⟩
  ·refine Or.elim (List.mem_cons.mp (I2.a2J b z)) (fun e=>?_) fun e=>?_
   ·exact f1 e
   ·exact ff e
  ·refine Or.elim (cl4 x c e) (fun q=>?_) fun Z1=>n8 (Z1) fun _ q _=>?_
   ·exact f4 x c q
   ·exact Nat.ne_of_gt (Nat.lt_trans (Nat.lt_succ_of_lt (hlt b hb)) q)
  ·have e:p=(s2.heap.objs.size,o):=List.mem_singleton.mp hp
   subst e
   exact absurd (hlt b hb) (by rw [← z]; exact Nat.lt_irrefl _)
 have loop:∀ s3:Shared,s3={ s2 with heap:=h1,toks:=s2.toks }→
   codeAny (model X.prog X.w) X.A (.compLoop (.ListComp elt [⟨tg,iter,ifs,0⟩] scope pos) 0 (.ref it) (.ref s2.heap.objs.size) (compEnvC scope cx (s2.heap.objs.size + 1) X.env))
    (compPost (model X.prog X.w) X.A X.xe use Q' (.ref s2.heap.objs.size) (s2.heap.objs.size + 1)) s3:=by
  rintro s3 rfl
  refine a6i (fun n s'=>∃ (i:Nat) (τ:St) (H':Hp) (ys:List V) (its:List Value) (k:Nat),Inv (X.blk scope cx (s2.heap.objs.size + 1) M { s2 with heap:=s2.heap.push { cls:=.type "list",data:=.seq ([]:List Value).toArray } } H2 (s2.heap.objs.size::fp)) [(s2.heap.objs.size,{ cls:=.type "list",data:=.seq its.toArray k })] (seen own fr σ) H' s'∧
   tn i s'.heap∧(∀ b∈fp,H' b=none)∧Vals ys its∧ys.length≤sizeLine∧W i n ys H') ?_ m0 ⟨0,seen own fr σ,H2,[],[],0,J0,st1,fun b hb=>(f2 b hb).1,.nil,Nat.zero_le _,w0⟩
  rintro n s4 ⟨i,τ,H4,ys,its,k,J4,st4,fr4,hv4,hz4,w4⟩
  rcases turn i n ys H4 w4 with ⟨stop,qn⟩ | ⟨go,hz,N,hN,step⟩
  ·refine E6 (T.done (X.blk scope cx (s2.heap.objs.size + 1) M { s2 with heap:=s2.heap.push { cls:=.type "list",data:=.seq ([]:List Value).toArray } } H2 (s2.heap.objs.size::fp)) rfl rfl rfl hc i _ s4 _ H4 _ J4 (stat fr4) st4 stop) fun r s5 Z0=>f9 (Z0) fun hr J5=>?_
   subst hr
   refine c6 (J5.loc) fun m5 hn5 _=>?_
   have nD:H4 s2.heap.objs.size=none:=(J5.pin _ (List.mem_append_right _ (List.mem_singleton.mpr rfl))).2.1
   exact fin s2.heap.objs.size (s2.heap.objs.size + 1) _ s5 ⟨m5,hn5⟩ (I2.b2W (Nat.le_succ _) (by rw [j3 (Nat.ne_of_gt (Nat.lt_succ_self _))]; exact J5.free)) (Inv.b1B I2 f2 J5 hv4 hz4 (.refl ..)) (qn _ nD)
  ·refine E6 (T.item (X.blk scope cx (s2.heap.objs.size + 1) M { s2 with heap:=s2.heap.push { cls:=.type "list",data:=.seq ([]:List Value).toArray } } H2 (s2.heap.objs.size::fp)) rfl rfl rfl hc i _ s4 _ H4 _ J4 (stat fr4) st4 go) fun r s5 Z0=>c6 (Z0) fun u hr h5=>?_
   subst hr
   refine E6 h5 fun _ s6 Z0=>a9w (Z0) fun x H6 J6 r6 y6 st6 fr6=>?_
   have J6':=J6.pinned (stat fr6) (T.obj _ _ st6)
   refine E6 (hg _ _ _ _ _ _ s6 _ H6 x u _ J6' r6 (hk _ _ _ _ (step x H6 y6))) fun _ s7 Z0=>i9 (Z0) fun σ7 H7 J7 kp7 q7=>?_
   refine E6 (hf _ _ _ _ _ _ s7 σ7 H7 _ J7 q7) fun ok s8 Z0=>c6 (Z0) fun H8 J8 q8=>?_
   have tnK:∀ {τ':St} {H':Hp} {s':Shared},Inv (X.blk scope cx (s2.heap.objs.size + 1) M { s2 with heap:=s2.heap.push { cls:=.type "list",data:=.seq ([]:List Value).toArray } } H2 (s2.heap.objs.size::fp)) ([(s2.heap.objs.size,{ cls:=.type "list",data:=.seq its.toArray k })]++a34 fp s6.heap) τ' H' s'→
     tn (i + 1) s'.heap∧(∀ b∈fp,H' b=none):=fun {τ' H' s'} K=>by
    refine ⟨T.keep _ _ _ st6 fun b hb o e=>(K.pin (b,o) (List.mem_append_right _ (List.mem_append_right _ (a0o hb e)))).1,fun b hb=>?_⟩
    refine c6 (T.obj _ _ st6 b hb) fun o e d=>?_
    exact (K.pin (b,o) (List.mem_append_right _ (List.mem_append_right _ (a0o hb e)))).2.1
   have back:∀ {pl:List (Addr×Obj)} {H':Hp} {s':Shared},Inv (X.blk scope cx (s2.heap.objs.size + 1) M { s2 with heap:=s2.heap.push { cls:=.type "list",data:=.seq ([]:List Value).toArray } } H2 (s2.heap.objs.size::fp)) pl σ7 H' s'→Inv (X.blk scope cx (s2.heap.objs.size + 1) M { s2 with heap:=s2.heap.push { cls:=.type "list",data:=.seq ([]:List Value).toArray } } H2 (s2.heap.objs.size::fp)) pl (seen own fr σ) H' s':=fun {pl H' s'} K=>K.weak (by rw [seen_length,K.len]; exact B.len.symm) kp7
   cases ok with
   | false=>
    refine f9 (tnK J8) fun hm' hl=>?_
    refine c6 (hN ys H8 (by simpa using q8)) fun m' hm w8=>?_
    exact ⟨m',hm,i + 1,seen own fr σ,H8,ys,its,k,back J8.a1Y,hm',hl,hv4,hz4,w8⟩
   | true=>
    simp only [if_true] at q8 ⊢
    refine E6 (he _ _ _ _ _ _ s8 σ7 H8 _ J8 q8) fun u9 s9 Z0=>i9 (Z0) fun y H9 J9 r9 q9=>?_
    refine f9 (tnK J9) fun hm' hl=>?_
    refine c6 (hN (ys++[y]) H9 q9) fun m' hm w9=>?_
    refine a1t (J9.pin (s2.heap.objs.size,{ cls:=.type "list",data:=.seq its.toArray k }) (List.mem_append_right _ (List.mem_append_left _ (List.mem_singleton.mpr rfl)))) fun eD nD d1 d2 d3=>?_
    refine a84 eD (by rw [← hv4.length]; exact Nat.le_of_lt hz) fun h' n' e' kp=>?_
    have K0:Inv (X.blk scope cx (s2.heap.objs.size + 1) M { s2 with heap:=s2.heap.push { cls:=.type "list",data:=.seq ([]:List Value).toArray } } H2 (s2.heap.objs.size::fp)) [] σ7 H9 s9:=J9.a2s fun p hp=>absurd hp (by simp)
    have K1:=K0.turned (t':=s9.toks) (h':=h') (it:=s2.heap.objs.size) kp nD d1 (.inl List.mem_cons_self) (fun x c e=>(J9.ok.exf _ List.mem_cons_self).2 x c e) (fun p hp=>absurd (show p∈([]:List (Addr×Obj)) from hp) (by simp))
    have K2:=K1.a2s (pins':=[(s2.heap.objs.size,{ cls:=.type "list",data:=.seq (its++[u9]).toArray n' })]) fun p hp=>by
     have e:p=_:=List.mem_singleton.mp hp
     subst e
     exact ⟨e',nD,d1,d2,fun v z=>by
      have z':Data.seq (its++[u9]).toArray _=Data.cell v:=z
      cases z'⟩
    refine ⟨m',hm,i + 1,seen own fr σ,H9,ys++[y],its++[u9],n',back K2,T.keep _ _ _ hm' fun b hb o e=>kp b o (Nat.ne_of_lt (hlt b hb)) e,hl,hv4.append (.cons r9 .nil),by rw [List.length_append,List.length_singleton]; exact hz,w9⟩
 exact codeAny_compStart_list (loop _ rfl) (T.self X.A 0 _ _ _ st1 (loop _ rfl))
theorem b24 (B:Blk X scope M own fr)(hc:X.calm=true)(hi:PI X tg iter wi)
  (hg:∀ cl C s H ex,PG (X.blk scope cl C M s H ex) tg g) (hk:a6R own fr g) (hf:∀ cl C s H ex,PF (X.blk scope cl C M s H ex) ifs tf) (he:∀ cl C s H ex,PE (X.blk scope cl C M s H ex) elt te)
  (hs:autoParam (∀ x,foldedSetIterable iter X.env x=pure x) au4._auto_1):PE X (.ListComp elt [⟨tg,iter,ifs,0⟩] scope pos) (a5M wi g tf te own fr):=by
 intro pins s σ H Q I h
 rw [eval_ListComp]
 refine a7k (use:=none) B hc hi hg hk hf he hs I h fun D C H' s' Z9 fc I' q=>g8 Z9 fun m hn=>?_
 refine P0 (fc) fun f0 f1 f2 f3 f4 f5=>?_
 exact ⟨m,hn,fun h' hs'=>⟨.ref D,H',I'.turned (t':=s'.toks) (fun b o hb e=>(hs'.2 b hb).trans e) f0 f1 f3 f4 f5,rfl,q⟩⟩
theorem b3K {i:Nat}{y:Str}{py spos:Pos}(B:Blk X scope M own fr)(hc:X.calm=true)(hN:X.N.Nodup)(hy:X.N[i]?=some y)(hx:X.env.kindOf y=some .local)(hi:PI X tg iter wi)
  (hg:∀ cl C s H ex,PG (X.blk scope cl C M s H ex) tg g) (hk:a6R own fr g) (hf:∀ cl C s H ex,PF (X.blk scope cl C M s H ex) ifs tf) (he:∀ cl C s H ex,PE (X.blk scope cl C M s H ex) elt te)
  (hsw:autoParam (swapsWith (.ListComp elt [⟨tg,iter,ifs,0⟩] scope pos) (some (.Name y py)) spos.line X.env=pure true) au5._auto_1)
  (hs:autoParam (∀ x,foldedSetIterable iter X.env x=pure x) au4._auto_1):PS X (.Assign [.Name y py] (.ListComp elt [⟨tg,iter,ifs,0⟩] scope pos) spos) (b3B (a5M wi g tf te own fr) (a27 i)):=by
 intro pins s σ H D I h
 rw [exec_Assign_Name_used _ _ _ _ hsw]
 refine wpAny_bind (wpAny_standAt (wpAny_bind ?_))
 show wpAny _ _ (do let _ ← comprehension (.ListComp elt [⟨tg,iter,ifs,0⟩] scope pos) scope X.env _ (newList []) false (eval iter X.env) (some (assign (.Name y py) X.env))) _ _ s
 refine wpAny_bind (wpAny_mono (a7k (use:=some (assign (.Name y py) X.env)) (Q':=fun _ s'=>SP X pins D .next s') B hc hi hg hk hf he hs I h fun Dl C H' s' Z9 fc I' q=>g8 Z9 fun m hn=>?_) (fun _ s' hq=>wpAny_pure (wpAny_pure hq)) fun _ _ e=>e)
 refine P0 (fc) fun f0 f1 f2 f3 f4 f5=>?_
 show wpAny _ _ (assign (.Name y py) X.env (.ref Dl)) _ _ _
 refine wpAny_assign_Name (a5E I' hN hy (.inl hx) (v:=.ref Dl) rfl (fun s2 I2 Z9=>c6 Z9 fun a sb ha=>?_) (.inr hx))
 have hCa:C≠a:=by
  rcases ha with rfl | ha
  ·exact f1
  ·exact fun z=>f4 _ _ ha z.symm
 refine ⟨m,hn.sameBut sb hCa,fun h' hs'=>?_⟩
 exact ⟨_,H',I2.turned (t':=s2.toks) (fun b o hb e=>(hs'.2 b hb).trans e) f0 f1 f3 f4 f5,q⟩
noncomputable def namesOk (scope:Scope)(fs:List Str):Bool:=scope.names.all fun y=>(y.2 != .cell || scope.names.lookup y.1 == some .cell) && (y.2 != .free || fs.contains y.1) && (y.2 != .local || scope.names.lookup y.1 == some .local)
theorem Blk.mk' {fs:List Str}(kind:scope.kind=.function)(h:namesOk scope fs=true)(nd:M.Nodup)(len:M.length=own + fr.length)(hk:∀ n∈fs,X.env.kindOf n=some .cell∨X.env.kindOf n=some .free)
  (at':∀ i j,fr[i]?=some j→M[own + i]?=X.N[j]?∧∃ n,X.N[j]?=some n∧scope.names.lookup n=some .free∧(X.env.kindOf n=some .cell∨X.env.kindOf n=some .free)):Blk X scope M own fr:=by
 have h':=List.all_eq_true.mp h
 refine ⟨kind,fun y hy e=>?_,fun y hy e=>?_,fun y hy e=>?_,nd,len,at'⟩
 ·have q:=h' y hy
  simp only [Bool.and_eq_true] at q
  have q2:=q.1.1
  rw [e] at q2
  simpa using q2
 ·have q:=h' y hy
  simp only [Bool.and_eq_true] at q
  have q2:=q.2
  rw [e] at q2
  simpa using q2
 ·have q:=h' y hy
  simp only [Bool.and_eq_true] at q
  have q2:=q.1.2
  rw [e] at q2
  exact hk y.1 (by simpa using q2)
theorem b7j {x:Str}{px:Pos}{M':List Str}(B:Blk X scope (x::M') 1 fr)(hi:PI X (.Name x px) iter wi)(hf:∀ cl C s H ex,PF (X.blk scope cl C (x::M') s H ex) ifs tf)(he:∀ cl C s H ex,PE (X.blk scope cl C (x::M') s H ex) elt te)
  (hc:autoParam (X.calm=true) m6._auto_1) (hx:autoParam (scope.names.lookup x=some .local∨scope.names.lookup x=some .cell) au0._auto_1) (hs:autoParam (∀ x,foldedSetIterable iter X.env x=pure x) au4._auto_1):PE X (.ListComp elt [⟨.Name x px,iter,ifs,0⟩] scope pos) (a5M wi (a27 0) tf te 1 fr):=
 b24 B hc hi (fun _ _ _ _ _=>a6B B.nd rfl (hx.imp lookup_relabel_local a29) (hx.symm.imp (fun h=>by show (scope.names.lookup x == some .cell)=true; rw [h]; rfl) lookup_relabel_local)) (a9U (by decide)) hf he hs
theorem b8z {i:Nat}{y:Str}{py spos:Pos}{x:Str}{px:Pos}{M':List Str}(B:Blk X scope (x::M') 1 fr)(hN:X.N.Nodup)(hi:PI X (.Name x px) iter wi)(hf:∀ cl C s H ex,PF (X.blk scope cl C (x::M') s H ex) ifs tf)(he:∀ cl C s H ex,PE (X.blk scope cl C (x::M') s H ex) elt te)
  (hy:autoParam (X.N[i]?=some y) m6._auto_1) (hly:autoParam (X.env.kindOf y=some .local) m6._auto_1) (hc:autoParam (X.calm=true) m6._auto_1) (hx:autoParam (scope.names.lookup x=some .local∨scope.names.lookup x=some .cell) au0._auto_1)
  (hsw:autoParam (swapsWith (.ListComp elt [⟨.Name x px,iter,ifs,0⟩] scope pos) (some (.Name y py)) spos.line X.env=pure true) au5._auto_1)
  (hs:autoParam (∀ x,foldedSetIterable iter X.env x=pure x) au4._auto_1):PS X (.Assign [.Name y py] (.ListComp elt [⟨.Name x px,iter,ifs,0⟩] scope pos) spos) (b3B (a5M wi (a27 0) tf te 1 fr) (a27 i)):=
 b3K B hc hN hy hly hi (fun _ _ _ _ _=>a6B B.nd rfl (hx.imp lookup_relabel_local a29) (hx.symm.imp (fun h=>by show (scope.names.lookup x == some .cell)=true; rw [h]; rfl) lookup_relabel_local)) (a9U (by decide)) hf he hsw hs
end
end L2
set_option Elab.async false
set_option linter.all false
set_option maxRecDepth 100000
set_option maxHeartbeats 4000000
namespace L2
open PySem PySem.Spec PyProof.Rows
noncomputable abbrev tx (cs:List Nat):Str:=⟨cs.toArray⟩
theorem b5J (x:Str):tx x.cps.toList=x:=by cases x; rfl
theorem b1Z {a b:List Nat}:tx a=tx b↔a=b:=by
 constructor
 ·intro h
  have e:a.toArray=b.toArray:=congrArg Str.cps h
  simpa using e
 ·rintro rfl; rfl
theorem a4w (a:List Nat):(tx a).length=a.length:=by show a.toArray.size=a.length; simp
noncomputable def Its (x:Str):It:=⟨fun i _=>i < x.cps.size,fun i H v H'=>H'=H∧∃ c,x.cps[i]?=some c∧v=.str ⟨#[c]⟩,fun i _=>x.cps.size≤i⟩
theorem b0H {P:Program}{w:World}{K:PySem.W.Frag}{tg:Expr}(x:Str)(t:Tok)(it:Addr):Turn P w K tg (Its x) [it] it (fun i h=>h.IsStrIter it "str_ascii_iterator" x t i) where
 mem:=by simp
 obj:=fun i h st b hb=>by
  have e:b=it:=by simpa using hb
  subst e
  refine j7 (st) fun o e c d=>?_
  exact ⟨o,e,fun v z=>by rw [d] at z; cases z⟩
 keep:=fun i h h' st k=>let ⟨o,ho,r⟩:=st; ⟨o,k it (by simp) o ho,r⟩
 item:=by
  intro X hP hw hK hc i pins s σ H E I hf st hg
  subst hP hw hK
  refine P0 (hf it (by simp)) fun f0 f1 f2 f3 f4 f5=>?_
  have hg':i < x.cps.size:=hg
  refine wpAny_pyNext_ascii_item st (c:=x.cps[i]) (by simp [hg']) fun h' st' sb=>?_
  have I1:Inv X pins σ H { s with heap:=h',toks:=s.toks + 1 }:=I.turned (fun b o hb e=>(sb.2 b hb).trans e) f0 f1 f3 f4 f5
  refine j7 (id st') fun o e c d=>?_
  exact ⟨_,rfl,a35 (s:={ s with heap:=h',toks:=s.toks + 1 }) e c d (by decide) ⟨.str ⟨#[x.cps[i]]⟩,H,I1,⟨_,rfl⟩,⟨rfl,_,by simp [hg'],rfl⟩,st',fun b hb=>(hf b hb).1⟩⟩
 done:=by
  intro X hP hw hK hc i pins s σ H E I hf st hg
  subst hP hw hK
  refine P0 (hf it (by simp)) fun f0 f1 f2 f3 f4 f5=>?_
  have hg':x.cps.size≤i:=hg
  exact wpAny_pyNext_ascii_end (I.ok.hd hc) st (by simp [hg']) fun h' eb=>⟨rfl,I.turned (t':=s.toks) (fun b o hb e=>eb b o hb e) f0 f1 f3 f4 f5⟩
 self:=fun _ _ _ _ _ st h=>wpAny_pyIter_striter_ascii st h
theorem b0X {P:Program}{w:World}{K:PySem.W.Frag}{tg:Expr}(x:Str)(t:Tok)(it:Addr):Turn P w K tg (Its x) [it] it (fun i h=>h.IsStrIter it "str_iterator" x t i) where
 mem:=by simp
 obj:=fun i h st b hb=>by
  have e:b=it:=by simpa using hb
  subst e
  refine j7 (st) fun o e c d=>?_
  exact ⟨o,e,fun v z=>by rw [d] at z; cases z⟩
 keep:=fun i h h' st k=>let ⟨o,ho,r⟩:=st; ⟨o,k it (by simp) o ho,r⟩
 item:=by
  intro X hP hw hK hc i pins s σ H E I hf st hg
  subst hP hw hK
  refine P0 (hf it (by simp)) fun f0 f1 f2 f3 f4 f5=>?_
  have hg':i < x.cps.size:=hg
  refine wpAny_pyNext_wide_item st (c:=x.cps[i]) (by simp [hg']) fun h' st' sb=>?_
  have I1:Inv X pins σ H { s with heap:=h',toks:=s.toks + 1 }:=I.turned (fun b o hb e=>(sb.2 b hb).trans e) f0 f1 f3 f4 f5
  refine j7 (id st') fun o e c d=>?_
  exact ⟨_,rfl,a35 (s:={ s with heap:=h',toks:=s.toks + 1 }) e c d (by decide) ⟨.str ⟨#[x.cps[i]]⟩,H,I1,⟨_,rfl⟩,⟨rfl,_,by simp [hg'],rfl⟩,st',fun b hb=>(hf b hb).1⟩⟩
 done:=by
  intro X hP hw hK hc i pins s σ H E I hf st hg
  subst hP hw hK
  refine P0 (hf it (by simp)) fun f0 f1 f2 f3 f4 f5=>?_
  have hg':x.cps.size≤i:=hg
  exact wpAny_pyNext_wide_end (I.ok.hd hc) st (by simp [hg']) fun h' eb=>⟨rfl,I.turned (t':=s.toks) (fun b o hb e=>eb b o hb e) f0 f1 f3 f4 f5⟩
 self:=fun _ _ _ _ _ st h=>wpAny_pyIter_striter_wide st h
section
variable {X:Cx}
theorem all_range (bs:List Bool):(List.range bs.length).all (fun i=>bs.getD i false)=bs.all id:=by
 have key:∀ (bs pre:List Bool),(List.range' pre.length bs.length).all (fun i=>(pre++bs).getD i false)=bs.all id:=by
  intro bs
  induction bs with
  | nil=>intro pre; rfl
  | cons b r ih=>
   intro pre
   have q:=ih (pre++[b])
   rw [List.length_cons,List.range'_succ,List.all_cons,List.all_cons]
   have e:(pre++b::r).getD pre.length false=b:=by simp
   have e2:pre++b::r=(pre++[b])++r:=by simp
   rw [e,e2]
   have e3:(pre++[b]).length=pre.length + 1:=by simp
   rw [e3] at q
   rw [q]
   rfl
 have q:=key bs []
 simpa [List.range_eq_range'] using q
theorem any_range (bs:List Bool):(List.range bs.length).any (fun i=>bs.getD i false)=bs.any id:=by
 have key:∀ (bs pre:List Bool),(List.range' pre.length bs.length).any (fun i=>(pre++bs).getD i false)=bs.any id:=by
  intro bs
  induction bs with
  | nil=>intro pre; rfl
  | cons b r ih=>
   intro pre
   have q:=ih (pre++[b])
   rw [List.length_cons,List.range'_succ,List.any_cons,List.any_cons]
   have e:(pre++b::r).getD pre.length false=b:=by simp
   have e2:pre++b::r=(pre++[b])++r:=by simp
   rw [e,e2]
   have e3:(pre++[b]).length=pre.length + 1:=by simp
   rw [e3] at q
   rw [q]
   rfl
 have q:=key bs []
 simpa [List.range_eq_range'] using q
theorem a5m {bs:List Bool}{its:List Value}{i:Nat}{v:Value}(r:Vals (bs.map V.bl) its)(h:its[i]?=some v):v=.bool (bs.getD i false):=by
 have hi:i < its.length:=(List.getElem?_eq_some_iff.mp h).1
 have hl:=r.length
 rw [List.length_map] at hl
 have hb:i < bs.length:=by omega
 refine c6 (r.get (i:=i) (x:=V.bl bs[i]) (by simp [hb])) fun u hu ru=>?_
 rw [h] at hu
 cases hu
 have e:bs.getD i false=bs[i]:=by simp [hb]
 rw [e]
 exact ru
theorem b26 (hc:X.calm=true):F8 X (.builtin "all") (fun xs H Q=>∃ (p:Addr) (bs:List Bool),xs=[.ref p]∧L5 X.K H p (bs.map V.bl)∧Q (.bl (bs.all id)) H):=by
 intro pins s σ H xs us Q I r h
 refine i9 (h) fun p bs Z1 hq q=>?_; subst Z1
 refine c6 (vals1 r) fun u Z1 rx=>?_; subst Z1
 cases rx
 refine j7 (I.list hq) fun its rv pl hz=>?_
 have hlen:its.toArray.size=bs.length:=by
  rw [List.size_toArray,← rv.length,List.length_map]
 have hp:p < s.heap.objs.size:=by
  refine c6 (pl.isList) fun o ho _=>?_
  exact Heap.lt_size ho
 refine call_all_walk (wpAny_pyIter_list pl.isList ?_)
 refine ⟨s.heap.objs.size,_,_,its.toArray.size,_,_,fun i=>bs.getD i false,rfl,Walks.list (A:=X.A.in1) (I.ok.hd hc) s.heap.objs.size p (Nat.ne_of_lt hp) its.toArray,And.intro ⟨_,Heap.get?_push_size _ rfl,rfl,rfl⟩ (pl.isList.at fun o e=>Heap.get?_push_of_some _ e),fun i v s1 Q1 E1 hv hQ=>?_,fun h' tk hk=>?_⟩
 ·have ev:v=.bool (bs.getD i false):=a5m rv (by simpa using hv)
  subst ev
  exact wpAny_truthy_bool hQ
 ·rw [hlen,all_range]
  refine ⟨.bl _,H,I.kept (t':=tk) fun b o e=>hk b o (fun z=>?_) (Heap.get?_push_of_some _ e),rfl,q⟩
  have e2:b=s.heap.objs.size:=by simpa using z
  subst e2
  exact absurd (Heap.lt_size e) (Nat.lt_irrefl _)
theorem b2V (hc:X.calm=true):F8 X (.builtin "any") (fun xs H Q=>∃ (p:Addr) (bs:List Bool),xs=[.ref p]∧L5 X.K H p (bs.map V.bl)∧Q (.bl (bs.any id)) H):=by
 intro pins s σ H xs us Q I r h
 refine i9 (h) fun p bs Z1 hq q=>?_; subst Z1
 refine c6 (vals1 r) fun u Z1 rx=>?_; subst Z1
 cases rx
 refine j7 (I.list hq) fun its rv pl hz=>?_
 have hlen:its.toArray.size=bs.length:=by
  rw [List.size_toArray,← rv.length,List.length_map]
 have hp:p < s.heap.objs.size:=by
  refine c6 (pl.isList) fun o ho _=>?_
  exact Heap.lt_size ho
 refine call_any_walk (wpAny_pyIter_list pl.isList ?_)
 refine ⟨s.heap.objs.size,_,_,its.toArray.size,_,_,fun i=>bs.getD i false,rfl,Walks.list (A:=X.A.in1) (I.ok.hd hc) s.heap.objs.size p (Nat.ne_of_lt hp) its.toArray,And.intro ⟨_,Heap.get?_push_size _ rfl,rfl,rfl⟩ (pl.isList.at fun o e=>Heap.get?_push_of_some _ e),fun i v s1 Q1 E1 hv hQ=>?_,fun h' tk hk=>?_⟩
 ·have ev:v=.bool (bs.getD i false):=a5m rv (by simpa using hv)
  subst ev
  exact wpAny_truthy_bool hQ
 ·rw [hlen,any_range]
  refine ⟨.bl _,H,I.kept (t':=tk) fun b o e=>hk b o (fun z=>?_) (Heap.get?_push_of_some _ e),rfl,q⟩
  have e2:b=s.heap.objs.size:=by simpa using z
  subst e2
  exact absurd (Heap.lt_size e) (Nat.lt_irrefl _)
end
end L2
set_option Elab.async false
set_option linter.all false
set_option maxRecDepth 100000
set_option maxHeartbeats 4000000
namespace L2
open PySem PySem.Spec PyProof.Rows
noncomputable def Def (K:PySem.W.Frag)(mg:Str→Option Value)(x:Str)(st:Stmt)(ps:List Str):Prop:=
 ∃ (f:Addr) (fd:FuncData),Fun K x x st f fd∧(∀ us:List Value,us.length=ps.length→bindArgs fd ⟨us,[]⟩=pure (ps.zip us))∧mg x=some (.ref f)
theorem M7 {K:PySem.W.Frag}{h:Heap}{mg:Str→Option Value}{x:Str}{st:Stmt}{ps:List Str}{f:Addr}{od an:Option Addr}{sl:Array (Option Value)}{oc kV dc pm cd ct:Value}(X:K.In h)(G:h.Ns mainGlobals mg)
  (a:PySem.W.nsIn K mainGlobals x=some (some (.ref f))) (l:K.lookup f=some ⟨oc,od,.func (PySem.W.fnOf x x (a0n st) (K3 st) (j9 st) .none kV dc pm an cd ct),sl⟩) (c:PySem.W.codeIn K cd x=true) (k:PySem.W.keepIn K (.ref f)=true)
  (b:∀ (kV doc pm:Value) (an:Option Addr) (cdv ct:Value) (us:List Value),us.length=ps.length→bindArgs (PySem.W.fnOf x x (a0n st) (K3 st) (j9 st) .none kV doc pm an cdv ct) ⟨us,[]⟩=pure (ps.zip us)):Def K mg x st ps:=
 ⟨f,_,b2e (st:=st) l c k,fun us hl=>b kV dc pm an cd ct us hl,PySem.W.mg_of X G a⟩
noncomputable def Has (P:Program)(w:World)(K:PySem.W.Frag)(mg:Str→Option Value)(base:Heap)(k:Nat)(x:Str)(ps:List Str)(sp:Sp):Prop:=
 ∃ (f:Addr) (fd:FuncData),B7 P w K mg base X4 k f fd ps sp∧Binds K fd ps []∧mg x=some (.ref f)∧PySem.W.keepIn K (.ref f)=true
theorem Def.has {P:Program}{w:World}{K:PySem.W.Frag}{mg:Str→Option Value}{base:Heap}{k:Nat}{x:Str}{st:Stmt}{ps:List Str}{sp:Sp}(D:Def K mg x st ps)(h:∀ f fd,Fun K x x st f fd→B7 P w K mg base X4 k f fd ps sp):Has P w K mg base k x ps sp:=by
 refine i9 (D) fun f fd F b m=>?_
 exact ⟨f,fd,h f fd F,Binds.all b,m,F.kp⟩
noncomputable def Cst (mg:Str→Option Value)(x:Str)(v:V):Prop:=∃ u,mg x=some u∧RelV v u
theorem a8Y {K:PySem.W.Frag}{h:Heap}{mg:Str→Option Value}{x:Str}{u:Value}{v:V}(X:K.In h)(G:h.Ns mainGlobals mg)(a:PySem.W.nsIn K mainGlobals x=some (some u))(r:RelV v u):Cst mg x v:=⟨u,PySem.W.mg_of X G a,r⟩
section
variable {X:Cx}{k:Nat}{x:Str}{ps:List Str}{sp:Sp}{e:Expr}{es:List Expr}{t:TA}{p pos:Pos}
theorem b7Q (h:Has X.prog X.w X.K X.mg X.base k x ps sp)(hr:K5 k X.A)(ha:PA X (e::es) t)(hg:autoParam (Gl X x) m6._auto_1)(hdb:autoParam ((x == ("__debug__":Str))=false) Y0._auto_1)
  (he:autoParam (starEach (e::es) X.env=(false,eval e X.env)::starEach es X.env) m6._auto_1) (hpl:autoParam ((backTo pos (starEach es X.env)).any (·.1)=false) m6._auto_1):PE X (.Call (.Name x p) (e::es) [] pos) (b10 sp [] E0 t):=by
 refine R8 (h) fun f fd F b m kp=>?_
 exact b3x F hr hg m kp b .nil b2D ha hdb he hpl
theorem b9Q {v:V}(h:Cst X.mg x v)(hg:autoParam (Gl X x) m6._auto_1)(hd:autoParam ((x == ("__debug__":Str))=false) Y0._auto_1):PE X (.Name x pos) (tC v):=by
 refine c6 (h) fun u m r=>?_
 exact b3N hg m r hd
end
theorem V1 {H:Hp}{p:Addr}(h:H p=none)(o:HO):i6 H (upd H p o):=fun b u q=>by rw [j3 (t9 q h)]; exact q
theorem i6.tup {K:PySem.W.Frag}{H H':Hp}{a:Addr}{xs:List V}(e:i6 H H')(h:Y8 K H a xs):Y8 K H' a xs:=by
 rcases h with (h | ⟨o,h⟩) | h
 ·exact .inl (.inl (e _ _ h))
 ·exact .inl (.inr ⟨o,e _ _ h⟩)
 ·exact .inr h
noncomputable def b2I (K:PySem.W.Frag):Sp:=fun vs H Q _=>∃ (a:Addr) (ns:List Int),vs=[.ref a]∧L5 K H a (ns.map V.int)∧ns.length≤63∧∀ H',Q (.bl true) H'
theorem b2h {l:PySem.W.OpenLaw}{k:Nat}{q:Program}{loose:List Str}{XP:(Str→Option Value)→Heap→Prop}{YP:World→Heap→Prop}{d:DefRec}{K:Params→PySem.W.Frag}{x:Str}(hn:l.most=some 63)(hdf:d.params.defaults=[])(hr:K5 k callerA)
  (hY:∀ (w:World) (h:Heap),YP w h→(K w.params).In h)
  (F:∀ (w:World) (mg:Str→Option Value) (fa:Addr) (h:Heap),(K w.params).In h→h.Ns mainGlobals mg→mg d.name=some (.ref fa)→
   ∃ fd:FuncData,(∀ (s:Shared) (u:Value),BindsTo s fd ⟨[u],[]⟩ [(x,u)])∧∀ base:Heap,(K w.params).In base→base.Ns mainGlobals mg→B7 l.prog w (K w.params) mg base X4 k fa fd [x] (b2I (K w.params))):
  PySem.W.WalkO q loose XP YP l.row.toRowW d [] (fun f vs=>PySem.call f vs):=
 L2.b4q (n:=63) (k:=k) (x:=x) (CX:=fun _=>X4) (sp:=fun w=>b2I (K w.params)) hn (by decide) hdf hr hY F (fun _ _ a ns hl _ hS=>⟨a,ns,rfl,hS,hl,fun _=>rfl⟩) fun _ _ _ _ _ z=>z
theorem b50 {P:Program}{w:World}{K:PySem.W.Frag}{mg:Str→Option Value}{fa:Addr}{k:Nat}{st:Stmt}{x n:Str}{sp:Sp}(D:Def K mg n st [x])(hfa:mg n=some (.ref fa))
  (h:∀ f fd,Fun K n n st f fd→∀ base:Heap,K.In base→base.Ns mainGlobals mg→B7 P w K mg base X4 k f fd [x] sp):
  ∃ fd:FuncData,(∀ (s:Shared) (u:Value),BindsTo s fd ⟨[u],[]⟩ [(x,u)])∧∀ base:Heap,K.In base→base.Ns mainGlobals mg→B7 P w K mg base X4 k fa fd [x] sp:=by
 refine i9 (D) fun f fd F b m=>?_
 have e:fa=f:=by
  have e:=Option.some.inj (hfa.symm.trans m)
  injection e
 subst e
 exact ⟨fd,fun s u=>.of_eq (b [u] rfl),h fa fd F⟩
noncomputable def a3a (ns:List Int)(k:Int):Int:=if ns.isEmpty then 0 else ns.getD (k % (ns.length:Int)).toNat 0
noncomputable def A8 (ns:List Int)(k:Int):Int:=
 ((a3a ns k + 104729 * (k + 1)) % 4294967291 * 48271 % 4294967279 / 64 * 69621 + (a3a ns k + 104729 * (k + 1)) % 4294967291 * 48271 % 4294967279) % 4294967231
theorem b4L {ns:List Int}{k:Int}(h:ns≠[]):atI (ns.map V.int) (k % ((ns.map V.int).length:Int))=some (.int (a3a ns k)):=by
 have hl:0 < ns.length:=List.length_pos_iff.mpr h
 have h0:0≤k % (ns.length:Int):=Int.emod_nonneg _ (by omega)
 have h1:k % (ns.length:Int) < ns.length:=Int.emod_lt_of_pos _ (by omega)
 rw [List.length_map]
 have e:k % (ns.length:Int)=(((k % (ns.length:Int)).toNat:Nat):Int):=by omega
 rw [e]
 refine a56 ?_
 rw [List.getElem?_map,List.getElem?_eq_getElem (by omega)]
 unfold a3a
 have he:ns.isEmpty=false:=by cases ns with
  | nil=>exact absurd rfl h
  | cons a r=>rfl
 rw [he]
 simp only [Bool.false_eq_true,if_false,Option.map_some,Option.some.injEq,V.int.injEq]
 rw [List.getD_eq_getElem?_getD,List.getElem?_eq_getElem (by omega)]
 rfl
end L2
set_option Elab.async false
set_option linter.all false
set_option maxRecDepth 100000
set_option maxHeartbeats 4000000
namespace L2
open PySem PySem.Spec PyProof.Rows
section
variable {X:Cx}
theorem a4q (hc:X.calm=true):F8 X (.type "list") (fun xs H Q=>∃ a kvs,xs=[.ref a]∧Rd H a (.dK kvs)∧∀ p,H p=none→Q (.ref p) (upd H p (.lst (kvs.map fun kv=>kV kv.1)))):=by
 intro pins s σ H xs us Q I r h
 refine i9 (h) fun a kvs Z1 hH q=>?_; subst Z1
 refine c6 (vals1 r) fun u Z1 rx=>?_; subst Z1
 cases rx
 refine n8 (W2 I.hok hH) fun z hS Z9=>c6 Z9 fun vs rel dd=>?_
 refine g8 (dd.dictAt) fun ep hat=>?_
 have hlen:=rel.length
 refine PySem.W.kdl_call (PySem.W.kdl_dict (knd:=x8 X.prog X.w) (kvs:=vs) (ep:=ep) hS) (I.ok.hd hc) hat (by omega) fun h' tk acc c kp e items=>?_
 refine ⟨.ref s.heap.objs.size,_,I.laid (a:=s.heap.objs.size) (o:=.lst (kvs.map fun kv=>kV kv.1)) (t':=tk) kp (Nat.le_refl _) ?_,rfl,q _ I.fresh⟩
 refine ⟨by rw [List.length_map]; exact z,acc.toList,c,?_,by simpa using e⟩
 have al:acc.toList.length=vs.length:=by rw [Array.length_toList]; exact items.1
 have key:∀ (ks:List (Key×V)) (us:List (Key×Value)) (ws:List Value),KV ks us→ws.length=us.length→(∀ (j:Nat) v,ws[j]?=some v→∃ k x,us[j]?=some (k,x)∧(x8 X.prog X.w).is k v=true)→Vals (ks.map fun kv=>kV kv.1) ws:=by
  intro ks us ws rr
  unfold KV at rr
  induction rr generalizing ws with
  | nil=>
   intro hl _
   have:ws=[]:=List.length_eq_zero_iff.mp hl
   subst this
   exact .nil
  | @cons p q ps qs hpq _ ih=>
   intro hl hw
   cases ws with
   | nil=>simp at hl
   | cons v r=>
    refine l6 (hw 0 v rfl) fun k x e1 e2=>?_
    have e3:q=(k,x):=Option.some.inj e1
    refine .cons ?_ (ih r (by simpa using hl) fun j v' hv'=>hw (j + 1) v' hv')
    have e4:p.1=k:=by rw [hpq.1,e3]
    show RelV (kV p.1) v
    rw [e4]
    have e5:a22 k v=true:=e2
    rcases A3 e5 with ⟨i,t,rfl,rfl⟩ | ⟨y,t,rfl,rfl⟩
    ·exact ⟨t,rfl⟩
    ·exact ⟨t,rfl⟩
 exact key kvs vs acc.toList rel al fun j v hv=>items.2 j v (by rw [← Array.getElem?_toList]; exact hv)
end
end L2
set_option Elab.async false
set_option linter.all false
set_option maxRecDepth 100000
set_option maxHeartbeats 4000000
set_option Elab.async false
set_option linter.all false
set_option maxRecDepth 100000
set_option maxHeartbeats 4000000
set_option Elab.async false
set_option linter.all false
set_option maxRecDepth 100000
set_option maxHeartbeats 4000000
set_option Elab.async false
set_option linter.all false
set_option maxRecDepth 100000
set_option maxHeartbeats 4000000
namespace L2
open PySem PySem.Spec PyProof.Rows
section
variable {X:Cx}{K:PySem.W.Frag}
theorem b0z (hK:X.K=K):F8 X (.builtin "len") (fun xs H Q=>∃ p ys,xs=[.ref p]∧(L5 K H p ys∨Y8 K H p ys)∧Q (.int ys.length) H):=by subst hK; exact a6y
theorem b1U (hK:X.K=K):IxR X (b6X K):=by subst hK; exact b37
theorem b33 (hK:X.K=K):IxR X (b5z K):=by subst hK; exact b5R
theorem b0o (hK:X.K=K)(hc:X.calm=true):F8 X (.builtin "all") (fun xs H Q=>∃ (p:Addr) (bs:List Bool),xs=[.ref p]∧L5 K H p (bs.map V.bl)∧Q (.bl (bs.all id)) H):=by subst hK; exact b26 hc
theorem b0h (hK:X.K=K)(hc:X.calm=true):F8 X (.builtin "any") (fun xs H Q=>∃ (p:Addr) (bs:List Bool),xs=[.ref p]∧L5 K H p (bs.map V.bl)∧Q (.bl (bs.any id)) H):=by subst hK; exact b2V hc
end
end L2
set_option Elab.async false
set_option linter.all false
set_option maxRecDepth 100000
set_option maxHeartbeats 4000000
namespace L3
open PySem PySem.Spec PyProof.Rows L2
noncomputable abbrev St:=L2.St
inductive D where
 | w6 | bl (b:Bool) | int (i:Int) | str (cs:List Nat) | ty (n:String)
 | tup (xs:List D) | lst (xs:List D) | dct (kvs:List (Key×D))
instance:Inhabited D:=⟨.w6⟩
inductive Rep (K:PySem.W.Frag) (G:Hp):V→D→Prop
 | w6:Rep K G .w6 .w6
 | bl (b:Bool):Rep K G (.bl b) (.bl b)
 | int (i:Int):Rep K G (.int i) (.int i)
 | str (cs:List Nat):Rep K G (.str (tx cs)) (.str cs)
 | ty (n:String):Rep K G (.ty n) (.ty n)
 | tup {a:Addr} {xs:List V} {ds:List D} (h:Y8 K G a xs) (hl:xs.length=ds.length) (hr:∀ (j:Nat) x d,xs[j]?=some x→ds[j]?=some d→Rep K G x d):Rep K G (.ref a) (.tup ds)
 | lst {a:Addr} {xs:List V} {ds:List D} (h:L5 K G a xs) (hl:xs.length=ds.length) (hr:∀ (j:Nat) x d,xs[j]?=some x→ds[j]?=some d→Rep K G x d):Rep K G (.ref a) (.lst ds)
 | dct {a:Addr} {kvs:List (Key×V)} {es:List (Key×D)} (h:Rd G a (.dK kvs)) (hk:kvs.map (·.1)=es.map (·.1)) (hr:∀ (j:Nat) p e,kvs[j]?=some p→es[j]?=some e→Rep K G p.2 e.2):Rep K G (.ref a) (.dct es)
theorem Rd.same {G G':Hp}{a:Addr}{u:HO}(s:i6 G G')(h:Rd G a u):Rd G' a u:=by
 refine Or.elim (h) (fun h=>?_) fun Z1=>g8 (Z1) fun o h=>?_
 ·exact .inl (s _ _ h)
 ·exact .inr ⟨o,s _ _ h⟩
theorem _root_.L2.a0P.r {H:Hp}{a:Addr}{kvs:List (Key×V)}{k:Key}(e:Rd H a (.dK kvs)):a0P H a (kV k) (a02 kvs k):=.inl ⟨kvs,k,e,rfl,rfl⟩
theorem Rep.same {K:PySem.W.Frag}{G G':Hp}(s:i6 G G'){v:V}{d:D}(h:Rep K G v d):Rep K G' v d:=by
 induction h with
 | w6=>exact .w6
 | bl b=>exact .bl b
 | int i=>exact .int i
 | str cs=>exact .str cs
 | ty n=>exact .ty n
 | tup h hl _ ih=>exact .tup (s.tup h) hl ih
 | lst h hl _ ih=>exact .lst (s.seq h) hl ih
 | dct h hk _ ih=>exact .dct (L3.Rd.same s h) hk ih
structure t6 (K:PySem.W.Frag) (G:Hp) (xs:List V) (ds:List D):Prop where
 len:xs.length=ds.length
 get:∀ (j:Nat) x d,xs[j]?=some x→ds[j]?=some d→Rep K G x d
structure n5 (K:PySem.W.Frag) (G:Hp) (kvs:List (Key×V)) (es:List (Key×D)):Prop where
 keys:kvs.map (·.1)=es.map (·.1)
 get:∀ (j:Nat) p e,kvs[j]?=some p→es[j]?=some e→Rep K G p.2 e.2
section
variable {K:PySem.W.Frag}{G G' H:Hp}
theorem t6.same (s:i6 G G'){xs:List V}{ds:List D}(h:t6 K G xs ds):t6 K G' xs ds:=⟨h.len,fun j x d a b=>(h.get j x d a b).same s⟩
theorem n5.same (s:i6 G G'){kvs:List (Key×V)}{es:List (Key×D)}(h:n5 K G kvs es):n5 K G' kvs es:=⟨h.keys,fun j x d a b=>(h.get j x d a b).same s⟩
theorem t6.nil:t6 K G [] []:=⟨rfl,fun j x d h=>by simp at h⟩
theorem t6.cons {x:V}{d:D}{xs:List V}{ds:List D}(h:Rep K G x d)(r:t6 K G xs ds):t6 K G (x::xs) (d::ds):=by
 refine ⟨by simp [r.len],fun j y e a b=>?_⟩
 cases j with
 | zero=>simp at a b; subst a b; exact h
 | succ j=>exact r.get j y e (by simpa using a) (by simpa using b)
theorem t6.head {x:V}{d:D}{xs:List V}{ds:List D}(r:t6 K G (x::xs) (d::ds)):Rep K G x d:=r.get 0 x d rfl rfl
theorem t6.tail {x:V}{d:D}{xs:List V}{ds:List D}(r:t6 K G (x::xs) (d::ds)):t6 K G xs ds:=⟨by have:=r.len; simpa using this,fun j y e a b=>r.get (j + 1) y e (by simpa using a) (by simpa using b)⟩
theorem t6.append {xs ys:List V}{ds es:List D}(h:t6 K G xs ds)(r:t6 K G ys es):t6 K G (xs++ys) (ds++es):=by
 refine ⟨by simp [h.len,r.len],fun j x d a b=>?_⟩
 by_cases hj:j < xs.length
 ·rw [List.getElem?_append_left hj] at a
  rw [List.getElem?_append_left (by rw [← h.len]; exact hj)] at b
  exact h.get j x d a b
 ·rw [List.getElem?_append_right (by omega)] at a
  rw [List.getElem?_append_right (by rw [← h.len]; omega),← h.len] at b
  exact r.get _ x d a b
theorem t6.one {x:V}{d:D}(h:Rep K G x d):t6 K G [x] [d]:=.cons h .nil
theorem t6.at {xs:List V}{ds:List D}(h:t6 K G xs ds){j:Nat}{d:D}(e:ds[j]?=some d):∃ x,xs[j]?=some x∧Rep K G x d:=by
 have hj:j < xs.length:=by rw [h.len]; exact (List.getElem?_eq_some_iff.mp e).1
 exact ⟨xs[j],by simp [hj],h.get j _ d (by simp [hj]) e⟩
theorem t6.atV {xs:List V}{ds:List D}(h:t6 K G xs ds){j:Nat}{x:V}(e:xs[j]?=some x):∃ d,ds[j]?=some d∧Rep K G x d:=by
 have hj:j < ds.length:=by rw [← h.len]; exact (List.getElem?_eq_some_iff.mp e).1
 exact ⟨ds[j],by simp [hj],h.get j x _ e (by simp [hj])⟩
theorem t6.take {xs:List V}{ds:List D}(h:t6 K G xs ds)(n:Nat):t6 K G (xs.take n) (ds.take n):=by
 refine ⟨by simp [h.len],fun j x d a b=>?_⟩
 rw [List.getElem?_take] at a b
 by_cases hj:j < n
 ·rw [if_pos hj] at a b; exact h.get j x d a b
 ·rw [if_neg hj] at a; cases a
theorem t6.drop {xs:List V}{ds:List D}(h:t6 K G xs ds)(n:Nat):t6 K G (xs.drop n) (ds.drop n):=by
 refine ⟨by simp [h.len],fun j x d a b=>?_⟩
 rw [List.getElem?_drop] at a b
 exact h.get _ x d a b
theorem t6.set {xs:List V}{ds:List D}{x:V}{d:D}(h:t6 K G xs ds)(hx:Rep K G x d)(n:Nat):t6 K G (xs.set n x) (ds.set n d):=by
 refine ⟨by simp [h.len],fun j y e a b=>?_⟩
 by_cases hj:n=j
 ·subst hj
  rw [List.getElem?_set_self' ] at a b
  cases hx1:xs[n]? with
  | none=>rw [hx1] at a; simp at a
  | some _=>
   cases hd1:ds[n]? with
   | none=>rw [hd1] at b; simp at b
   | some _=>
    rw [hx1] at a; rw [hd1] at b
    simp at a b
    subst a b
    exact hx
 ·rw [List.getElem?_set_ne hj] at a b
  exact h.get j y e a b
theorem t6.a3L (ns:List Int):t6 K G (ns.map V.int) (ns.map D.int):=by
 refine ⟨by simp,fun j x d a b=>?_⟩
 rw [List.getElem?_map] at a b
 cases h:ns[j]? with
 | none=>rw [h] at a; cases a
 | some n=>rw [h] at a b; cases a; cases b; exact .int n
end
inductive C where
 | sh (d:D) | ow (l:Bool) (d:D) | fz (es:List (Key×D)) | ob (l:Bool) (fds:List (Str×D)) | rd (fds:List (Str×D))
noncomputable def isO:C→Bool
 | .ob _ _=>true
 | .rd _=>true
 | _=>false
noncomputable abbrev k9:=List (Option C)
inductive W where
 | val (d:D) | slot (i:Nat) | own (d:D)
structure Bs where
 K:PySem.W.Frag
 H0:Hp
 HK:Hp
 G0:Hp
 L:Nat→Option Addr
 O:Option (Nat×Nat×Addr):=none
noncomputable def Bs.gh (B:Bs)(i:Nat):Bool:=match B.O with
 | some (_,j,_)=>decide (i=j)
 | none=>false
noncomputable def Lnt (B:Bs)(i:Nat):Bool→Addr→Prop
 | true,p=>B.L i=some p∨(B.gh i=true∧B.L i=none∧B.H0 p=none)
 | false,p=>B.H0 p=none
noncomputable def A5 (K:PySem.W.Frag)(G H:Hp)(p:Addr):D→Prop
 | .lst ds=>∃ xs,H p=some (.lst xs)∧t6 K G xs ds
 | .dct es=>∃ kvs,H p=some (.dK kvs)∧n5 K G kvs es
 | _=>False
theorem A5.some {K:PySem.W.Frag}{G H:Hp}{p:Addr}{d:D}(h:A5 K G H p d):∃ o,H p=some o:=by
 cases d with
 | lst ds=>refine c6 (h) fun xs e _=>?_; exact ⟨_,e⟩
 | dct es=>refine c6 (h) fun xs e _=>?_; exact ⟨_,e⟩
 | _=>exact (show False from h).elim
theorem A5.same {K:PySem.W.Frag}{G G' H H':Hp}{p:Addr}{d:D}(s:i6 G G')(e:H' p=H p)(h:A5 K G H p d):A5 K G' H' p d:=by
 cases d with
 | lst ds=>refine c6 (h) fun xs q r=>?_; exact ⟨xs,by rw [e]; exact q,r.same s⟩
 | dct es=>refine c6 (h) fun xs q r=>?_; exact ⟨xs,by rw [e]; exact q,r.same s⟩
 | _=>exact (show False from h).elim
noncomputable def FZ (K:PySem.W.Frag)(G:Hp)(σ:St)(ρ:k9):Prop:=∀ (i:Nat) es,ρ[i]?=some (some (.fz es))→∃ a o kvs,σ[i]?=some (some (.ref a))∧G a=some (.frz o (.dK kvs))∧n5 K G kvs es
theorem FZ.same {K:PySem.W.Frag}{G G':Hp}{σ:St}{ρ:k9}(h:FZ K G σ ρ)(s:i6 G G'):FZ K G' σ ρ:=fun i es e=>by
 refine E5 (h i es e) fun a o kvs h1 h2 h3=>?_
 exact ⟨a,o,kvs,h1,s _ _ h2,h3.same s⟩
theorem FZ.a3E {K:PySem.W.Frag}{G:Hp}{σ:St}{ρ:k9}{i:Nat}{c:Option C}(h:FZ K G σ ρ)(hc:∀ es,c≠some (.fz es)):FZ K G σ (ρ.set i c):=fun j es e=>by
 by_cases z:i=j
 ·subst z
  rw [List.getElem?_set_self'] at e
  cases q:ρ[i]? with
  | none=>rw [q] at e; cases e
  | some c0=>rw [q] at e; exact absurd (Option.some.inj e) (hc es)
 ·rw [List.getElem?_set_ne z] at e; exact h j es e
theorem FZ.a7s {K:PySem.W.Frag}{G:Hp}{σ:St}{ρ:k9}{i:Nat}{c:Option C}{v:Option V}(h:FZ K G σ ρ)(hc:∀ es,c≠some (.fz es)):FZ K G (σ.set i v) (ρ.set i c):=fun j es e=>by
 by_cases z:i=j
 ·subst z
  rw [List.getElem?_set_self'] at e
  cases q:ρ[i]? with
  | none=>rw [q] at e; cases e
  | some c0=>rw [q] at e; exact absurd (Option.some.inj e) (hc es)
 ·rw [List.getElem?_set_ne z] at e ⊢; exact h j es e
noncomputable def N3:Str:="table"
noncomputable def G7 (K:PySem.W.Frag)(G:Hp)(fs:List (Str×V))(fds:List (Str×D)):Prop:=Paired (fun (p:Str×V) (q:Str×D)=>p.1=q.1∧(p.1≠N3→Rep K G p.2 q.2)) fs fds
theorem G7.same {K:PySem.W.Frag}{G G':Hp}(s:i6 G G'){fs:List (Str×V)}{fds:List (Str×D)}(h:G7 K G fs fds):G7 K G' fs fds:=Paired.b1W h fun _ _ z=>⟨z.1,fun n=>(z.2 n).same s⟩
noncomputable def OB (B:Bs)(G H:Hp)(σ:St)(ρ:k9):Prop:=(∀ (i:Nat) l fds,ρ[i]?=some (some (.ob l fds))→∃ j C p dx fs,B.O=some (i,j,C)∧σ[i]?=some (some (.ref p))∧G p=none∧B.HK p=none∧((l=true→B.L i=some p)∧(l=false→B.H0 p=none))∧
 H p=some (.ins C dx fs)∧G7 B.K G fs fds∧∀ v,fs.lookup N3=some v→∀ d,ρ[j]?=some (some (.ow true d))→σ[j]?=some (some v))∧
 ∀ (i:Nat) fds,ρ[i]?=some (some (.rd fds))→∃ i0 j0 C p dx fs,B.O=some (i0,j0,C)∧σ[i]?=some (some (.ref p))∧B.HK p=some (.ins C dx fs)∧G7 B.K G fs fds
theorem OB.to {B:Bs}{G H G' H':Hp}{σ σ':St}{ρ ρ':k9}(h:OB B G H σ ρ)(s:i6 G G')(hG:∀ p C dx fs,H p=some (.ins C dx fs)→G p=none→G' p=none)(hH:∀ p C dx fs,H p=some (.ins C dx fs)→B.HK p=none→G p=none→H' p=some (.ins C dx fs))
  (ho:∀ (i:Nat) c,isO c=true→ρ'[i]?=some (some c)→ρ[i]?=some (some c)∧σ'[i]?=σ[i]?) (hw:∀ (j:Nat) d,ρ'[j]?=some (some (.ow true d))→(∃ d0,ρ[j]?=some (some (.ow true d0)))∧σ'[j]?=σ[j]?):OB B G' H' σ' ρ':=by
 refine ⟨fun i l fds e=>?_,fun i fds e=>?_⟩
 ·refine f9 (ho i _ rfl e) fun e0 es=>?_
  refine a0F (h.1 i l fds e0) fun j C p dx fs a1 a2 a3 a4 a5 a6 a7 a8=>?_
  refine ⟨j,C,p,dx,fs,a1,by rw [es]; exact a2,hG _ _ _ _ a6 a3,a4,a5,hH _ _ _ _ a6 a4 a3,a7.same s,fun v hv d hd=>?_⟩
  refine f9 (hw j d hd) fun Z1 e2=>?_; refine g8 (Z1) fun d0 h0=>?_
  rw [e2]
  exact a8 v hv d0 h0
 ·refine f9 (ho i _ rfl e) fun e0 es=>?_
  refine a9n (h.2 i fds e0) fun i0 j C p dx fs a1 a2 a3 a4=>?_
  exact ⟨i0,j,C,p,dx,fs,a1,by rw [es]; exact a2,a3,a4.same s⟩
theorem OB.gh {B:Bs}{G H G' H':Hp}{σ:St}{ρ:k9}(h:OB B G H σ ρ)(s:i6 G G')(hG:∀ p C dx fs,H p=some (.ins C dx fs)→G p=none→G' p=none)(hH:∀ p C dx fs,H p=some (.ins C dx fs)→B.HK p=none→G p=none→H' p=some (.ins C dx fs)):OB B G' H' σ ρ:=
 h.to s hG hH (fun _ _ _ e=>⟨e,rfl⟩) fun _ d e=>⟨⟨d,e⟩,rfl⟩
theorem OB.re {B:Bs}{G H:Hp}{σ:St}{ρ ρ':k9}(h:OB B G H σ ρ)(ho:∀ (i:Nat) c,isO c=true→ρ'[i]?=some (some c)→ρ[i]?=some (some c))(hw:∀ (j:Nat) d,ρ'[j]?=some (some (.ow true d))→∃ d0,ρ[j]?=some (some (.ow true d0))):OB B G H σ ρ':=
 h.to (i6.refl _) (fun _ _ _ _ _ g=>g) (fun _ _ _ _ e _ _=>e) (fun i c z e=>⟨ho i c z e,rfl⟩) fun j d e=>⟨hw j d e,rfl⟩
theorem M8 {ρ:k9}{i j:Nat}{c:Option C}{x:C}(e:(ρ.set i c)[j]?=some (some x)):(i=j∧c=some x)∨(i≠j∧ρ[j]?=some (some x)):=by
 by_cases z:i=j
 ·subst z
  rw [List.getElem?_set_self'] at e
  cases q:ρ[i]? with
  | none=>rw [q] at e; cases e
  | some c0=>rw [q] at e; exact .inl ⟨rfl,Option.some.inj e⟩
 ·rw [List.getElem?_set_ne z] at e; exact .inr ⟨z,e⟩
theorem OB.a3E {B:Bs}{G H:Hp}{σ:St}{ρ:k9}{i:Nat}{c:Option C}(h:OB B G H σ ρ)(hc:∀ x,c=some x→isO x=false)(hw:∀ d,c=some (.ow true d)→∃ d0,ρ[i]?=some (some (.ow true d0))):OB B G H σ (ρ.set i c):=by
 refine h.re (fun j x z e=>?_) fun j d e=>?_
 ·refine Or.elim (M8 e) (fun Z0=>f9 (Z0) fun _ e'=>?_) fun Z1=>f9 (Z1) fun _ e'=>?_
  ·rw [hc x e'] at z; cases z
  ·exact e'
 ·refine Or.elim (M8 e) (fun Z0=>f9 (Z0) fun z e'=>?_) fun Z1=>f9 (Z1) fun _ e'=>?_
  ·subst z; exact hw d e'
  ·exact ⟨d,e'⟩
theorem OB.a7s {B:Bs}{G H:Hp}{σ:St}{ρ:k9}{i:Nat}{c:Option C}{v:Option V}(h:OB B G H σ ρ)(hc:∀ x,c=some x→isO x=false)(hw:∀ d,c≠some (.ow true d)):OB B G H (σ.set i v) (ρ.set i c):=by
 refine h.to (i6.refl _) (fun _ _ _ _ _ g=>g) (fun _ _ _ _ e _ _=>e) (fun j x z e=>?_) fun j d e=>?_
 ·refine Or.elim (M8 e) (fun Z0=>f9 (Z0) fun _ e'=>?_) fun Z1=>f9 (Z1) fun n e'=>?_
  ·rw [hc x e'] at z; cases z
  ·exact ⟨e',List.getElem?_set_ne n⟩
 ·refine Or.elim (M8 e) (fun Z0=>f9 (Z0) fun _ e'=>?_) fun Z1=>f9 (Z1) fun n e'=>?_
  ·exact absurd e' (hw d)
  ·exact ⟨⟨d,e'⟩,List.getElem?_set_ne n⟩
theorem W0 {K:PySem.W.Frag}{G H:Hp}{p q:Addr}{d:D}{C dx:Addr}{fs:List (Str×V)}(o:A5 K G H q d)(h:H p=some (.ins C dx fs)):p≠q:=by
 rintro rfl
 cases d with
 | lst ds=>refine c6 (o) fun xs e _=>?_; rw [h] at e; cases e
 | dct es=>refine c6 (o) fun xs e _=>?_; rw [h] at e; cases e
 | _=>exact (show False from o).elim
structure RS (B:Bs) (G H:Hp) (σ:St) (ρ:k9):Prop where
 hk:i6 B.HK B.H0
 keep:i6 B.HK H
 g0:i6 B.G0 G
 gH:i6 G H
 gnew:∀ p o,G p=some o→B.G0 p=some o∨B.H0 p=none
 dom:∀ p,H p=none→B.H0 p=none
 len:σ.length=ρ.length
 sh:∀ (i:Nat) d,ρ[i]?=some (some (.sh d))→∃ v,σ[i]?=some (some v)∧Rep B.K G v d
 ow:∀ (i:Nat) l d,ρ[i]?=some (some (.ow l d))→∃ p,σ[i]?=some (some (.ref p))∧G p=none∧B.HK p=none∧Lnt B i l p∧A5 B.K G H p d
 inj:∀ (i j:Nat) l d k e p,ρ[i]?=some (some (.ow l d))→ρ[j]?=some (some (.ow k e))→σ[i]?=some (some (.ref p))→σ[j]?=some (some (.ref p))→i=j
 fz:FZ B.K G σ ρ
 ob:OB B G H σ ρ
noncomputable def D4 (B:Bs)(G H:Hp)(σ:St)(ρ:k9)(v:V):W→Prop
 | .val d=>Rep B.K G v d
 | .slot i=>σ[i]?=some (some v)
 | .own d=>∃ p,v=.ref p∧G p=none∧B.H0 p=none∧A5 B.K G H p d∧∀ (i:Nat) l e,ρ[i]?=some (some (.ow l e))→σ[i]?≠some (some (.ref p))
noncomputable def L0 (K:PySem.W.Frag)(G H:Hp)(v:V)(d:D):Prop:=Rep K G v d∨∃ p,v=.ref p∧A5 K G H p d
section
variable {K:PySem.W.Frag}{G H:Hp}{v:V}
theorem L0.int {i:Int}(h:L0 K G H v (.int i)):v=.int i:=by
 refine Or.elim (h) (fun h=>?_) fun Z1=>c6 (Z1) fun p _ h=>?_
 ·cases h; rfl
 ·exact (show False from h).elim
theorem L0.bl {b:Bool}(h:L0 K G H v (.bl b)):v=.bl b:=by
 refine Or.elim (h) (fun h=>?_) fun Z1=>c6 (Z1) fun p _ h=>?_
 ·cases h; rfl
 ·exact (show False from h).elim
theorem L0.w6 (h:L0 K G H v .w6):v=.w6:=by
 refine Or.elim (h) (fun h=>?_) fun Z1=>c6 (Z1) fun p _ h=>?_
 ·cases h; rfl
 ·exact (show False from h).elim
theorem L0.str {cs:List Nat}(h:L0 K G H v (.str cs)):v=.str (tx cs):=by
 refine Or.elim (h) (fun h=>?_) fun Z1=>c6 (Z1) fun p _ h=>?_
 ·cases h; rfl
 ·exact (show False from h).elim
theorem L0.tup {ds:List D}(g:i6 G H)(h:L0 K G H v (.tup ds)):∃ a xs,v=.ref a∧Y8 K H a xs∧t6 K G xs ds:=by
 rcases h with h | ⟨p,_,h⟩
 ·cases h with
  | tup h hl hr=>exact ⟨_,_,rfl,g.tup h,hl,hr⟩
 ·exact (show False from h).elim
theorem L0.lst {ds:List D}(g:i6 G H)(h:L0 K G H v (.lst ds)):∃ a xs,v=.ref a∧L5 K H a xs∧t6 K G xs ds:=by
 rcases h with h | ⟨p,rfl,xs,e,r⟩
 ·cases h with
  | lst h hl hr=>exact ⟨_,_,rfl,g.seq h,hl,hr⟩
 ·exact ⟨p,xs,rfl,L5.of e,r⟩
theorem L0.dct {es:List (Key×D)}(g:i6 G H)(h:L0 K G H v (.dct es)):∃ a kvs,v=.ref a∧Rd H a (.dK kvs)∧n5 K G kvs es:=by
 rcases h with h | ⟨p,rfl,xs,e,r⟩
 ·cases h with
  | dct h hk hr=>exact ⟨_,_,rfl,L3.Rd.same g h,hk,hr⟩
 ·exact ⟨p,xs,rfl,.inl e,r⟩
end
noncomputable def getD (w:W)(ρ:k9):Option D:=match w with
 | .val d=>some d
 | .own d=>some d
 | .slot i=>match ρ[i]? with
  | some (some (.sh d))=>some d
  | some (some (.ow _ d))=>some d
  | some (some (.fz es))=>some (.dct es)
  | _=>none
section
variable {B:Bs}{G G' H H':Hp}{σ:St}{ρ:k9}{v:V}{w:W}{d:D}
theorem D4.get (R:RS B G H σ ρ)(h:D4 B G H σ ρ v w)(e:getD w ρ=some d):L0 B.K G H v d:=by
 cases w with
 | val d'=>cases e; exact .inl h
 | own d'=>
  cases e
  refine x6 (h) fun p Z1 _ _ o _=>?_; subst Z1
  exact .inr ⟨p,rfl,o⟩
 | slot i=>
  have h':σ[i]?=some (some v):=h
  unfold getD at e
  simp only [] at e
  split at e
  ·rename_i d' q
   cases e
   refine c6 (R.sh i _ q) fun v' q1 r=>?_
   rw [h'] at q1
   cases q1
   exact .inl r
  ·rename_i l d' q
   cases e
   refine x6 (R.ow i _ _ q) fun p q1 _ _ _ o=>?_
   rw [h'] at q1
   cases q1
   exact .inr ⟨p,rfl,o⟩
  ·rename_i es q
   cases e
   refine E5 (R.fz i _ q) fun a o kvs q1 q2 q3=>?_
   rw [h'] at q1
   cases q1
   exact .inl (.dct (.inr ⟨o,q2⟩) q3.keys q3.get)
  ·cases e
theorem D4.same {ρ':k9}(s:i6 G G')(h:D4 B G H σ ρ v w)(hw:∀ d,w≠.own d):D4 B G' H' σ ρ' v w:=by
 cases w with
 | val d=>exact Rep.same s h
 | slot i=>exact h
 | own d=>exact absurd rfl (hw d)
theorem RS.frz {p:Addr}{d:D}(R:RS B G H σ ρ)(g:G p=none)(h0:B.H0 p=none)(o:A5 B.K G H p d)(ne:∀ (i:Nat) l e,ρ[i]?=some (some (.ow l e))→σ[i]?≠some (some (.ref p))):
  ∃ G',i6 G G'∧RS B G' H σ ρ∧Rep B.K G' (.ref p) d:=by
 refine g8 (o.some) fun ob hob=>?_
 have s:i6 G (upd G p ob):=V1 g ob
 refine ⟨upd G p ob,s,⟨R.hk,R.keep,R.g0.trans s,?_,?_,R.dom,R.len,?_,?_,R.inj,R.fz.same s,R.ob.gh s (fun q _ _ _ hq g'=>by rw [j3 (W0 o hq)]; exact g') fun _ _ _ _ e _ _=>e⟩,?_⟩
 ·intro b u q
  by_cases e:b=p
  ·subst e; rw [l9] at q; cases q; exact hob
  ·rw [j3 e] at q; exact R.gH b u q
 ·intro b u q
  by_cases e:b=p
  ·subst e; exact .inr h0
  ·rw [j3 e] at q; exact R.gnew b u q
 ·intro i d' q
  refine c6 (R.sh i d' q) fun v q1 r=>?_
  exact ⟨v,q1,r.same s⟩
 ·intro i l d' q
  refine x6 (R.ow i l d' q) fun p' q1 q2 q3 q4 q5=>?_
  have e:p'≠p:=fun z=>ne i l d' q (by rw [q1,z])
  exact ⟨p',q1,by rw [j3 e]; exact q2,q3,q4,q5.same s rfl⟩
 ·cases d with
  | lst ds=>
   refine c6 (o) fun xs e r=>?_
   rw [e] at hob
   cases hob
   have r':=r.same s
   exact .lst (L5.of l9) r'.len r'.get
  | dct es=>
   refine c6 (o) fun xs e r=>?_
   rw [e] at hob
   cases hob
   have r':=r.same s
   exact .dct (.inl l9) r'.keys r'.get
  | _=>exact (show False from o).elim
end
structure Exn where
 cls:Str
 fs:List (Str×D)
inductive R' (α:Type) where
 | ok (a:α) (ρ:k9) | ex (x:Exn) (ρ:k9)
noncomputable abbrev M (α:Type):=k9→Option (R' α)
noncomputable def M.pure {α:Type}(a:α):M α:=fun ρ=>some (.ok a ρ)
noncomputable def M.bind {α β:Type}(m:M α)(f:α→M β):M β:=fun ρ=>match m ρ with
 | none=>none
 | some (.ex x ρ')=>some (.ex x ρ')
 | some (.ok a ρ')=>f a ρ'
theorem M.j8 {α β:Type}{m:M α}{f:α→M β}{ρ ρ':k9}{a:α}(h:m ρ=some (.ok a ρ')):M.bind m f ρ=f a ρ':=by unfold M.bind; rw [h]
theorem M.a3Q {α β:Type}{m:M α}{f:α→M β}{ρ ρ':k9}{x:Exn}(h:m ρ=some (.ex x ρ')):M.bind m f ρ=some (.ex x ρ'):=by unfold M.bind; rw [h]
theorem M.bind_none {α β:Type}{m:M α}{f:α→M β}{ρ:k9}(h:m ρ=none):M.bind m f ρ=none:=by unfold M.bind; rw [h]
noncomputable def D3 (w:W):M D:=fun ρ=>match w with
 | .val d=>some (.ok d ρ)
 | .own d=>some (.ok d ρ)
 | .slot i=>match ρ[i]? with
  | some (some (.sh d))=>some (.ok d ρ)
  | some (some (.ow false d))=>some (.ok d (ρ.set i (some (.sh d))))
  | some (some (.fz es))=>some (.ok (.dct es) ρ)
  | _=>none
theorem W3 {w:W}{ρ:k9}{r:R' D}(h:D3 w ρ=some r):∃ d ρ',r=.ok d ρ':=by
 unfold D3 at h
 cases w with
 | val d=>cases h; exact ⟨_,_,rfl⟩
 | own d=>cases h; exact ⟨_,_,rfl⟩
 | slot i=>
  simp only [] at h
  split at h
  ·cases h; exact ⟨_,_,rfl⟩
  ·cases h; exact ⟨_,_,rfl⟩
  ·cases h; exact ⟨_,_,rfl⟩
  ·cases h
section
variable {B:Bs}{G G' H H':Hp}{σ:St}{ρ ρ':k9}{v:V}{w:W}{d:D}
theorem D4.D3 (R:RS B G H σ ρ)(h:D4 B G H σ ρ v w)(e:L3.D3 w ρ=some (.ok d ρ')):∃ G',i6 G G'∧RS B G' H σ ρ'∧Rep B.K G' v d:=by
 unfold L3.D3 at e
 cases w with
 | val d'=>cases e; exact ⟨G,i6.refl G,R,h⟩
 | own d'=>
  cases e
  refine x6 (h) fun p Z1 g h0 o ne=>?_; subst Z1
  exact R.frz g h0 o ne
 | slot i=>
  have h':σ[i]?=some (some v):=h
  simp only [] at e
  split at e
  ·rename_i d' q
   cases e
   refine c6 (R.sh i _ q) fun v' q1 r=>?_
   rw [h'] at q1
   cases q1
   exact ⟨G,i6.refl G,R,r⟩
  ·rename_i d' q
   cases e
   refine x6 (R.ow i _ _ q) fun p q1 q2 q3 q4 o=>?_
   have hi:i < ρ.length:=(List.getElem?_eq_some_iff.mp q).1
   rw [h'] at q1
   cases q1
   
   have R0:RS B G H σ (ρ.set i none):=by
    refine ⟨R.hk,R.keep,R.g0,R.gH,R.gnew,R.dom,by simp [R.len],fun j d' q'=>?_,fun j l d' q'=>?_,fun j k l d' l' e' p' a b=>?_,R.fz.a3E (by intro _ h; cases h),R.ob.a3E (by intro _ h; cases h <;> rfl) (by intro _ h; cases h)⟩
    ·by_cases z:i=j
     ·subst z; rw [List.getElem?_set_self hi] at q'; cases q'
     ·rw [List.getElem?_set_ne z] at q'; exact R.sh j d' q'
    ·by_cases z:i=j
     ·subst z; rw [List.getElem?_set_self hi] at q'; cases q'
     ·rw [List.getElem?_set_ne z] at q'; exact R.ow j l d' q'
    ·by_cases z:i=j
     ·subst z; rw [List.getElem?_set_self hi] at a; cases a
     ·by_cases z':i=k
      ·subst z'; rw [List.getElem?_set_self hi] at b; cases b
      ·rw [List.getElem?_set_ne z] at a
       rw [List.getElem?_set_ne z'] at b
       exact R.inj j k l d' l' e' p' a b
   obtain ⟨G',s,R',r⟩:=R0.frz q2 q4 o fun j l e' q' z=>by
    by_cases zz:i=j
    ·subst zz; rw [List.getElem?_set_self hi] at q'; cases q'
    ·rw [List.getElem?_set_ne zz] at q'
     exact zz (R.inj i j _ _ _ _ p q q' h' z)
   refine ⟨G',s,⟨R'.hk,R'.keep,R'.g0,R'.gH,R'.gnew,R'.dom,by simp [R.len],fun j d' q'=>?_,fun j l d' q'=>?_,fun j k l d' l' e' p' a b=>?_,(R.fz.same s).a3E (by intro _ h; cases h),R'.ob.re (fun j c z' e=>?_) fun j d e=>?_⟩,r⟩
   ·by_cases z:i=j
    ·subst z
     rw [List.getElem?_set_self hi] at q'
     cases q'
     exact ⟨_,h',r⟩
    ·rw [List.getElem?_set_ne z] at q'
     exact R'.sh j d' (by rw [List.getElem?_set_ne z]; exact q')
   ·by_cases z:i=j
    ·subst z; rw [List.getElem?_set_self hi] at q'; cases q'
    ·rw [List.getElem?_set_ne z] at q'
     exact R'.ow j l d' (by rw [List.getElem?_set_ne z]; exact q')
   ·by_cases z:i=j
    ·subst z; rw [List.getElem?_set_self hi] at a; cases a
    ·by_cases z':i=k
     ·subst z'; rw [List.getElem?_set_self hi] at b; cases b
     ·rw [List.getElem?_set_ne z] at a
      rw [List.getElem?_set_ne z'] at b
      exact R.inj j k l d' l' e' p' a b
   ·by_cases z:i=j
    ·subst z; rw [List.getElem?_set_self hi] at e; cases e; cases z'
    ·rw [List.getElem?_set_ne z] at e ⊢; exact e
   ·by_cases z:i=j
    ·subst z; rw [List.getElem?_set_self hi] at e; cases e
    ·rw [List.getElem?_set_ne z] at e ⊢; exact ⟨d,e⟩
  ·rename_i es q
   cases e
   refine E5 (R.fz i _ q) fun a o kvs q1 q2 q3=>?_
   rw [h'] at q1
   cases q1
   exact ⟨G,i6.refl G,R,.dct (.inr ⟨o,q2⟩) q3.keys q3.get⟩
  ·cases e
theorem RS.a8Q {p:Addr}{xs:List V}{ds:List D}(R:RS B G H σ ρ)(hp:H p=none)(r:t6 B.K G xs ds):∃ G',i6 G G'∧RS B G' (upd H p (.tup xs)) σ ρ∧Rep B.K G' (.ref p) (.tup ds):=by
 have g:G p=none:=R.gH.free hp
 have s:i6 G (upd G p (.tup xs)):=V1 g _
 have sH:i6 H (upd H p (.tup xs)):=V1 hp _
 refine ⟨upd G p (.tup xs),s,⟨R.hk,R.keep.trans sH,R.g0.trans s,?_,?_,?_,R.len,?_,?_,R.inj,R.fz.same s,R.ob.gh s (fun q _ _ _ hq g'=>by rw [j3 (t9 hq hp)]; exact g') fun q _ _ _ hq _ _=>sH q _ hq⟩,.tup (Y8.of l9) r.len fun j x d a b=>(r.get j x d a b).same s⟩
 ·intro b u q
  by_cases e:b=p
  ·subst e; rw [l9] at q ⊢; exact q
  ·rw [j3 e] at q ⊢; exact R.gH b u q
 ·intro b u q
  by_cases e:b=p
  ·subst e; exact .inr (R.dom _ hp)
  ·rw [j3 e] at q; exact R.gnew b u q
 ·intro b q
  by_cases e:b=p
  ·subst e; exact R.dom _ hp
  ·rw [j3 e] at q; exact R.dom b q
 ·intro i d' q
  refine c6 (R.sh i d' q) fun v q1 q2=>?_
  exact ⟨v,q1,q2.same s⟩
 ·intro i l d' q
  refine x6 (R.ow i l d' q) fun p' q1 q2 q3 q4 q5=>?_
  refine g8 (q5.some) fun ob hob=>?_
  have e:p'≠p:=t9 hob hp
  exact ⟨p',q1,by rw [j3 e]; exact q2,q3,q4,q5.same s (j3 e)⟩
theorem RS.heap {p:Addr}{o:HO}(R:RS B G H σ ρ)(hp:H p=none):RS B G (upd H p o) σ ρ:=by
 have sH:i6 H (upd H p o):=V1 hp _
 refine ⟨R.hk,R.keep.trans sH,R.g0,R.gH.trans sH,R.gnew,?_,R.len,R.sh,?_,R.inj,R.fz,R.ob.gh (i6.refl _) (fun _ _ _ _ _ g'=>g') fun q _ _ _ hq _ _=>sH q _ hq⟩
 ·intro b q
  by_cases e:b=p
  ·subst e; exact R.dom _ hp
  ·rw [j3 e] at q; exact R.dom b q
 ·intro i l d' q
  refine x6 (R.ow i l d' q) fun p' q1 q2 q3 q4 q5=>?_
  refine g8 (q5.some) fun ob hob=>?_
  have e:p'≠p:=t9 hob hp
  exact ⟨p',q1,q2,q3,q4,q5.same (i6.refl G) (j3 e)⟩
theorem RS.b2N {p:Addr}{o:HO}(R:RS B G H σ ρ)(hp:H p=none)(h:A5 B.K G (upd H p o) p d):RS B G (upd H p o) σ ρ∧D4 B G (upd H p o) σ ρ (.ref p) (.own d):=by
 refine ⟨R.heap hp,p,rfl,R.gH.free hp,R.dom _ hp,h,fun i l e q z=>?_⟩
 refine x6 (R.ow i l e q) fun p' q1 q2 q3 q4 q5=>?_
 refine g8 (q5.some) fun ob hob=>?_
 rw [q1] at z
 cases z
 rw [hp] at hob
 cases hob
theorem RS.a1Q {p:Addr}{xs:List V}{ds:List D}(R:RS B G H σ ρ)(hp:H p=none)(r:t6 B.K G xs ds):RS B G (upd H p (.lst xs)) σ ρ∧D4 B G (upd H p (.lst xs)) σ ρ (.ref p) (.own (.lst ds)):=
 R.b2N hp ⟨xs,l9,r⟩
theorem RS.a8X {p:Addr}{kvs:List (Key×V)}{es:List (Key×D)}(R:RS B G H σ ρ)(hp:H p=none)(r:n5 B.K G kvs es):RS B G (upd H p (.dK kvs)) σ ρ∧D4 B G (upd H p (.dK kvs)) σ ρ (.ref p) (.own (.dct es)):=
 R.b2N hp ⟨kvs,l9,r⟩
theorem RS.write {i:Nat}{l:Bool}{p:Addr}{d':D}{o:HO}(R:RS B G H σ ρ)(hi:ρ[i]?=some (some (.ow l d)))(hs:σ[i]?=some (some (.ref p)))(h:A5 B.K G (upd H p o) p d'):
  RS B G (upd H p o) σ (ρ.set i (some (.ow l d'))):=by
 refine x6 (R.ow i l d hi) fun p0 q1 q2 q3 q4 q5=>?_
 rw [hs] at q1
 cases q1
 have hil:i < ρ.length:=(List.getElem?_eq_some_iff.mp hi).1
 refine ⟨R.hk,fun b u q=>?_,R.g0,fun b u q=>?_,R.gnew,fun b q=>?_,by simp [R.len],fun j e q=>?_,fun j k e q=>?_,fun j k a b c e p' x y=>?_,R.fz.a3E (by intro _ h; cases h),(R.ob.gh (i6.refl _) (fun _ _ _ _ _ g'=>g') fun q _ _ _ hq _ _=>by rw [j3 (W0 q5 hq)]; exact hq).a3E (by intro _ h; cases h <;> rfl) (by intro d0 h; cases h; exact ⟨_,hi⟩)⟩
 ·rw [j3 (t9 q q3)]; exact R.keep b u q
 ·rw [j3 (t9 q q2)]; exact R.gH b u q
 ·by_cases z:b=p
  ·subst z; rw [l9] at q; cases q
  ·rw [j3 z] at q; exact R.dom b q
 ·by_cases z:i=j
  ·subst z; rw [List.getElem?_set_self hil] at q; cases q
  ·rw [List.getElem?_set_ne z] at q; exact R.sh j e q
 ·by_cases z:i=j
  ·subst z
   rw [List.getElem?_set_self hil] at q
   cases q
   exact ⟨p,hs,q2,q3,q4,h⟩
  ·rw [List.getElem?_set_ne z] at q
   refine x6 (R.ow j k e q) fun p' a1 a2 a3 a4 a5=>?_
   have e':p'≠p:=fun zz=>z (R.inj i j _ _ _ _ p hi q hs (by rw [a1,zz]))
   exact ⟨p',a1,a2,a3,a4,a5.same (i6.refl G) (j3 e')⟩
 ·by_cases z:i=j
  ·by_cases z':i=k
   ·intro _ _; omega
   ·subst z
    rw [List.getElem?_set_ne z'] at y
    intro a1 a2
    exact R.inj i k l d c e p' hi y a1 a2
  ·by_cases z':i=k
   ·subst z'
    rw [List.getElem?_set_ne z] at x
    intro a1 a2
    exact R.inj j i a b l d p' x hi a1 a2
   ·rw [List.getElem?_set_ne z] at x
    rw [List.getElem?_set_ne z'] at y
    exact R.inj j k a b c e p' x y
end
end L3
set_option Elab.async false
set_option linter.all false
set_option maxRecDepth 100000
set_option maxHeartbeats 4000000
namespace L3
open PySem PySem.Spec PyProof.Rows L2
structure a2u (fs xs:List Addr) (h h':Heap):Prop where
 keep:∀ b o,h.get? b=some o→b∉fs→b∉xs→h'.get? b=some o
 slot:∀ b o,h.get? b=some o→b∉xs→∃ sl,h'.get? b=some { o with slots:=sl }
 there:∀ b o,h.get? b=some o→∃ o',h'.get? b=some o'
noncomputable def TrD (h:Heap)(e T:Addr)(cls:Value)(dct:Option Addr)(fl:Value):Prop:=
 ∃ oe vs oT ts,h.get? e=some oe∧oe.cls=cls∧oe.dict=dct∧oe.data=.fields vs∧vs[1]?=some (.ref T)∧T≠e∧h.get? T=some oT∧oT.data=.fields ts∧ts[3]?=some fl
theorem a4j (f:Array Value→Array Value)(o:Obj):(Obj.mapFields f o).dict=o.dict:=by
 obtain ⟨c,d,dt,sl⟩:=o
 cases dt <;> rfl
section
variable {M:Model}{A:Around}{E:Value→Shared→Prop}{s:Shared}{base:Heap}{env:Env}{outer:List Env}{L e T:Addr}{oe:Obj}{vs:Array Value}{cls fl:Value}{dct:Option Addr}{Q:Unit→Shared→Prop}
theorem b1m {head:Value}{hadNext:Bool}(hfr:A.frames=some (env::outer))(hl:s.heap.FunFrames base (env::outer))(hf:env.frame=some L)(he:s.heap.get? e=some oe)(hd:oe.data=.fields vs)(hsz:1 < vs.size)
  (h:∀ h' T',a2u (frs (env::outer)) [e] s.heap h'→s.heap.get? T'=none→TrD h' e T' oe.cls oe.dict (rawInt L)→Q () { s with heap:=h' }):
  wpAny M A (do let a ← frameOf env; let pl ← entryPlaceOf L hadNext; let b ← EntryCells.newEntry head a .none (rawInt L) .none pl; setField (.ref e) 1 b) Q E s:=by
 have hne:e∉(env::outer).filterMap (·.frame):=fun hm=>by
  refine f9 (hl.mem hm) fun _ Z9=>c6 Z9 fun o ho hnf=>?_
  rw [he] at ho
  cases ho
  exact hnf vs hd
 refine wpAny_bind (wpAny_frameOf_fun hfr hl hf fun h₁ hs=>?_)
 refine wpAny_bind (wpAny_entryPlaceOf fun pl hpl=>?_)
 unfold EntryCells.newEntry newFields
 refine wpAny_bind (wpAny_newObj_type ?_ (hpl.sizeOk5 _ _ _ _ _))
 have he₁:h₁.get? e=some oe:=(hs.2.1 e hne).trans he
 generalize hO:({ cls:=.type "traceback",dict:=none,data:=.fields ([head,.ref L,.none,rawInt L,.none]++(if pl.isEmpty then List.replicate 6 Value.none else pl)).toArray }:Obj)=O
 have hOf:O.data=.fields ([head,.ref L,.none,rawInt L,.none]++(if pl.isEmpty then List.replicate 6 Value.none else pl)).toArray:=by rw [← hO]
 have hOn:O.isFreed=false:=by rw [← hO]; rfl
 have he₂:=Heap.get?_push_of_some (h:=h₁) O he₁
 have hne2:h₁.objs.size≠e:=Nat.ne_of_gt (Heap.lt_size he₁)
 refine wpAny_setField he₂ hd hsz (h _ h₁.objs.size ?_ ?_ ?_)
 ·have keep:∀ b o,b≠e→h₁.get? b=some o→((h₁.push O).update e (Obj.mapFields (·.setIfInBounds 1 (Value.ref h₁.objs.size)))).get? b=some o:=fun b o hb eb=>by
   rw [Heap.get?_update_other _ _ (Ne.symm hb)]
   exact Heap.get?_push_of_some _ eb
  refine ⟨fun b o eb nf nx=>keep b o (fun q=>nx (by simp [q])) ((hs.2.1 b nf).trans eb),fun b o eb nx=>?_,fun b o eb=>?_⟩
  ·refine g8 (hs.2.2 b o eb) fun sl e1=>?_
   exact ⟨sl,keep b _ (fun q=>nx (by simp [q])) e1⟩
  ·by_cases q:b=e
   ·subst q
    exact ⟨_,Heap.get?_update_self _ he₂ (Obj.isFreed_of_fields (Obj.data_mapFields hd _))⟩
   ·refine g8 (hs.2.2 b o eb) fun sl e1=>?_
    exact ⟨_,keep b _ q e1⟩
 ·exact Heap.get?_none_of_le (by rw [hs.1]; exact Nat.le_refl _)
 ·have hT:=(Heap.get?_update_other (h₁.push O) (Obj.mapFields (·.setIfInBounds 1 (Value.ref h₁.objs.size))) (Ne.symm hne2)).trans (Heap.get?_push_size h₁ hOn)
  refine ⟨_,_,O,_,Heap.get?_update_self _ he₂ (Obj.isFreed_of_fields (Obj.data_mapFields hd _)),Obj.cls_mapFields _ _,a4j _ _,Obj.data_mapFields hd _,by simp [hsz],hne2,hT,hOf,by simp⟩
theorem a7X {fs:List Addr}{h:Heap}{T:Addr}{oT:Obj}{ts:Array Value}(hT:h.get? T=some oT)(hd:oT.data=.fields ts)(i:Nat)(v:Value):a2u fs [T] h (h.update T (Obj.mapFields (·.setIfInBounds i v))):=by
 have other:∀ b,b≠T→(h.update T (Obj.mapFields (·.setIfInBounds i v))).get? b=h.get? b:=fun b hb=>Heap.get?_update_other _ _ (Ne.symm hb)
 refine ⟨fun b o eb _ nx=>(other b fun q=>nx (by simp [q])).trans eb,fun b o eb nx=>⟨o.slots,(other b fun q=>nx (by simp [q])).trans eb⟩,fun b o eb=>?_⟩
 by_cases q:b=T
 ·subst q
  exact ⟨_,Heap.get?_update_self _ hT (Obj.isFreed_of_fields (Obj.data_mapFields hd _))⟩
 ·exact ⟨o,(other b q).trans eb⟩
theorem a4E {l:List Env}{fs xs:List Addr}{h h':Heap}(hl:h.FunFrames base l)(k:a2u fs xs h h')(hx:∀ x∈xs,∀ o,h.get? x=some o→∃ vs,o.data=.fields vs):h'.FunFrames base l:=
 hl.of_keeps fun b o eb hnf=>by
  obtain ⟨sl,e1⟩:=k.slot b o eb fun m=>by
   refine g8 (hx b m o eb) fun vs q=>?_
   exact hnf vs q
  exact ⟨_,e1,rfl⟩
theorem a8S (hfr:A.frames=some (env::outer))(hl:s.heap.FunFrames base (env::outer))(hf:env.frame=some L)(he:s.heap.get? e=some oe)(hd:oe.data=.fields vs)(h1:vs[1]?=some .none)
  (h:∀ h' T',a2u (frs (env::outer)) [e] s.heap h'→s.heap.get? T'=none→TrD h' e T' oe.cls oe.dict (rawInt L)→Q () { s with heap:=h' }):wpAny M A (noteFrame (.ref e) env) Q E s:=by
 unfold noteFrame
 simp only [hf]
 refine wpAny_bind (wpAny_field he hd h1 ?_)
 rw [if_neg (by decide)]
 exact b1m hfr hl hf he hd (Array.getElem?_eq_some_iff.mp h1).1 h
theorem b0q (hfr:A.frames=some (env::outer))(hl:s.heap.FunFrames base (env::outer))(hf:env.frame=some L)(ht:TrD s.heap e T cls dct .none)
  (h:∀ h' T',a2u (frs (env::outer)) [e,T] s.heap h'→s.heap.get? T'=none→TrD h' e T' cls dct (rawInt L)→Q () { s with heap:=h' }):wpAny M A (noteFrame (.ref e) env) Q E s:=by
 refine b1u (ht) fun oe vs oT ts he hc hdc hd h1 hTe hT hdT h3=>?_
 subst hc hdc
 unfold noteFrame
 simp only [hf]
 refine wpAny_bind (wpAny_field he hd h1 ?_)
 rw [if_pos (show (Value.ref T != Value.none)=true from by simp)]
 refine wpAny_bind (wpAny_field hT hdT h3 ?_)
 rw [if_neg (show ¬ ((Value.none == rawInt L)=true) from by simp [rawInt])]
 refine wpAny_bind (wpAny_setField hT hdT (Array.getElem?_eq_some_iff.mp h3).1 ?_)
 have k:=a7X (fs:=frs (env::outer)) hT hdT 3 Value.none
 have he':=(Heap.get?_update_other (h:=s.heap) (Obj.mapFields (·.setIfInBounds 3 Value.none)) hTe).trans he
 refine b1m (base:=base) hfr (a4E hl k fun x hx o ho=>?_) hf he' hd (Array.getElem?_eq_some_iff.mp h1).1 fun h' T' k2 n2 t2=>h h' T' ⟨?_,?_,?_⟩ ?_ t2
 ·rw [List.mem_singleton] at hx
  subst hx
  rw [hT] at ho
  cases ho
  exact ⟨ts,hdT⟩
 ·intro b o eb nf nx
  simp at nx
  exact k2.keep b o (k.keep b o eb nf (by simpa using nx.2)) nf (by simpa using nx.1)
 ·intro b o eb nx
  simp at nx
  refine g8 (k.slot b o eb (by simpa using nx.2)) fun sl e1=>?_
  refine g8 (k2.slot b { o with slots:=sl } e1 (by simpa using nx.1)) fun sl2 e2=>?_
  exact ⟨sl2,e2⟩
 ·intro b o eb
  refine g8 (k.there b o eb) fun o1 e1=>?_
  exact k2.there b o1 e1
 ·cases q:s.heap.get? T' with
  | none=>rfl
  | some o=>
   refine g8 (k.there T' o q) fun o1 e1=>?_
   rw [n2] at e1
   cases e1
theorem b4X {f:Option Addr}(ht:TrD s.heap e T cls dct fl)(h:∀ h',a2u [] [T] s.heap h'→TrD h' e T cls dct (f.elim Value.none fun a=>rawInt a)→Q () { s with heap:=h' }):wpAny M A (setFlight (.ref e) f) Q E s:=by
 refine b1u (ht) fun oe vs oT ts he hc hdc hd h1 hTe hT hdT h3=>?_
 have hsz:3 < ts.size:=(Array.getElem?_eq_some_iff.mp h3).1
 unfold setFlight
 refine wpAny_bind (wpAny_field he hd h1 ?_)
 rw [if_pos (show (Value.ref T != Value.none)=true from by simp)]
 refine wpAny_setField hT hdT hsz (h _ (a7X hT hdT 3 _) ?_)
 exact ⟨oe,vs,_,_,(Heap.get?_update_other _ _ hTe).trans he,hc,hdc,hd,h1,hTe,Heap.get?_update_self _ hT (Obj.isFreed_of_fields (Obj.data_mapFields hdT _)),Obj.data_mapFields hdT _,by simp [hsz]⟩
theorem a8n (hf:env.frame=some L)(ht:TrD s.heap e T cls dct (rawInt L))(h:Q () s):wpAny M A (noteFrame (.ref e) env) Q E s:=by
 refine b1u (ht) fun oe vs oT ts he hc hdc hd h1 hTe hT hdT h3=>?_
 unfold noteFrame
 simp only [hf]
 refine wpAny_bind (wpAny_field he hd h1 ?_)
 rw [if_pos (show (Value.ref T != Value.none)=true from by simp)]
 refine wpAny_bind (wpAny_field hT hdT h3 ?_)
 rw [if_pos (show (rawInt L == rawInt L)=true from by simp)]
 exact wpAny_pure h
end
structure Off (X:Cx) (H:Hp) (a:Addr):Prop where
 new:X.s₀.heap.get? a=none
 free:H a=none
 loc:a≠X.env.locals
 cell:∀ x c,X.env.cells.lookup x=some c→c≠a
section
variable {X:Cx}{pins:List (Addr×Obj)}{σ:St}{H:Hp}{s:Shared}{h':Heap}{xs:List Addr}
theorem b2H {h h':Heap}{a:Addr}{m:Str→Option Value}(n:h.Ns a m)(k:∀ o,h.get? a=some o→∃ sl,h'.get? a=some { o with slots:=sl }):h'.Ns a m:=by
 refine n6 (n) fun o es ep e d sk f=>?_
 refine g8 (k o e) fun sl e'=>?_
 exact ⟨_,es,ep,e',d,sk,f⟩
theorem a4X {h h':Heap}{c:Addr}{v:Option Value}(n:h.IsCell c v)(k:∀ o,h.get? c=some o→∃ sl,h'.get? c=some { o with slots:=sl }):h'.IsCell c v:=by
 refine c6 (n) fun o e d=>?_
 refine g8 (k o e) fun sl e'=>?_
 exact ⟨_,e',d⟩
theorem _root_.L2.Inv.b2x (I:Inv X [] σ H s)(hp:X.pn=[])(k:a2u (X.env.locals::X.fs) xs s.heap h')(hx:∀ a∈xs,Off X H a):Inv X [] σ H { s with heap:=h' }:=by
 have xold:∀ b o,X.s₀.heap.get? b=some o→b∉xs:=fun b o e m=>by rw [(hx b m).new] at e; cases e
 have lold:∀ b o,X.s₀.heap.get? b=some o→b≠X.env.locals:=fun b o e z=>absurd (Nat.lt_of_lt_of_le (Heap.lt_size e) I.ok.above) (by rw [z]; exact Nat.lt_irrefl _)
 have ffree:∀ b∈X.fs,H b=none:=fun b hb=>by
  refine f9 (I.ok.a18.mem hb) fun _ Z9=>c6 Z9 fun o ho _=>?_
  exact I.base.free b o ho (I.ok.frf b hb) fun z=>I.ok.exfs b z hb
 have cs:∀ x c,X.env.cells.lookup x=some c→∀ o,s.heap.get? c=some o→∃ sl,h'.get? c=some { o with slots:=sl }:=fun x c e o eo=>k.slot c o eo fun m=>(hx c m).cell x c e rfl
 refine ⟨I.ok,I.os,I.bare,⟨fun b o e n nf nx=>?_,fun b o e n nf nx=>?_,I.base.free,fun b o e nx=>?_,I.base.tups,I.base.frzs,I.base.tbls⟩,?_,fun x c e=>?_,I.free,I.freeC,?_,fun a o e=>?_,I.len⟩
 ·exact k.keep b o (I.base.keep b o e n nf nx) (fun m=>(List.mem_cons.mp m).elim (lold b o e) nf) (xold b o e)
 ·refine g8 (I.base.slot b o e n nf nx) fun sl e1=>?_
  refine g8 (k.slot b _ e1 (xold b o e)) fun sl2 e2=>?_
  exact ⟨sl2,e2⟩
 ·refine g8 (I.base.there b o e nx) fun o1 e1=>?_
  exact k.there b o1 e1
 ·refine c6 (I.loc) fun m n l=>?_
  refine ⟨m,b2H n fun o e=>k.slot _ o e fun z=>(hx _ z).loc rfl,fun i x v e1 e2 e3=>?_⟩
  refine c6 (l i x v e1 e2 e3) fun u r lk=>?_
  refine ⟨u,r,lk.imp id fun ⟨q,c,ec,ic⟩=>⟨q,c,ec,a4X ic (cs x c ec)⟩⟩
 ·refine g8 (I.cell x c e) fun v ic=>?_
  exact ⟨v,a4X ic (cs x c e)⟩
 ·intro p hp'
  rw [hp] at hp'
  cases hp'
 ·refine (I.hok a o e).stay (fun c v hc q=>k.keep c v q (fun m=>?_) fun m=>?_) (fun _ q=>q) fun _ _ q=>q
  ·have hn:H c=none:=by
    refine Or.elim (List.mem_cons.mp m) (fun z=>?_) fun z=>?_
    ·rw [z]; exact I.free
    ·exact ffree c z
   refine Or.elim (hc) (fun z=>?_) fun z=>?_
   ·rw [z,e] at hn; cases hn
   ·rw [z] at hn; cases hn
  ·have hn:=(hx c m).free
   refine Or.elim (hc) (fun z=>?_) fun z=>?_
   ·rw [z,e] at hn; cases hn
   ·rw [z] at hn; cases hn
noncomputable def b9B (H:Hp)(fs:List (Str×D))(dct:Option Addr):Prop:=(fs=[]∧dct=none)∨∃ dx f n,fs=[(f,.int n)]∧dct=some dx∧H dx=some (.xd [(f,.int n)])
noncomputable def b77 (K:PySem.W.Frag)(H:Hp)(x:Exn)(cls:Value)(dct:Option Addr):Prop:=∃ C,cls=.ref C∧PySem.W.nsIn K mainGlobals x.cls=some (some (.ref C))∧b9B H x.fs dct
noncomputable def b7Z (X:Cx)(H:Hp)(a:Addr)(cls:Value)(dct:Option Addr)(h:Heap):Prop:=
 (∃ oe vs,h.get? a=some oe∧oe.cls=cls∧oe.dict=dct∧oe.data=.fields vs∧vs[1]?=some .none)∨∃ T fl,TrD h a T cls dct fl∧Off X H T∧(fl=.none∨fl=rawInt X.env.locals)
structure a9W (X:Cx):Prop where
 pn:X.pn=[]
 ex:X.ex=[]
 stk:X.stack=X.env::X.outer
 fr:X.env.frame=some X.env.locals
theorem b13 (I:Inv X pins σ H s){a:Addr}{o:HO}(e:H a=some o):∃ ob,s.heap.get? a=some ob:=by
 have x:=I.hok a o e
 generalize s.heap=h at x
 cases o with
 | lst xs=>refine f9 (x) fun _ Z9=>l6 Z9 fun _ _ _ e=>?_; exact ⟨_,e⟩
 | tup xs=>obtain ⟨_,_,_,ob,e,_⟩:=x; exact ⟨_,e⟩
 | dK kvs=>obtain ⟨_,_,_,_,o,_,_,e,_⟩:=x; exact ⟨_,e⟩
 | dT kvs=>obtain ⟨_,_,_,_,o,_,_,e,_⟩:=x; exact ⟨_,e⟩
 | set S n=>refine b1I (x) fun o _ _ _ e _=>?_; exact ⟨_,e⟩
 | ins C dx fs=>refine a1t (x) fun _ _ _ e _=>?_; exact ⟨_,e⟩
 | own y=>exact x
 | xd fs=>refine c6 (x) fun _ Z1 _=>?_; refine D0 (Z1) fun _ _ _ e _=>?_; exact ⟨_,e⟩
 | rng lo hi=>refine a3h (x) fun _ _ _ e=>?_; exact ⟨_,e⟩
 | frz ob u=>refine f9 (x) fun e _=>?_; exact ⟨_,e⟩
 | tbl ps=>exact ⟨_,show h.get? a=some _ from x⟩
 | met f y=>exact ⟨_,show h.get? a=some _ from x⟩
 | ext φ=>refine n8 (x) fun _ e _=>?_; exact e
theorem a9f (I:Inv X [] σ H s)(F:a9W X){T:Addr}(e:s.heap.get? T=none):Off X H T:=by
 refine ⟨?_,?_,fun z=>?_,fun x c ec z=>?_⟩
 ·cases q:X.s₀.heap.get? T with
  | none=>rfl
  | some o=>
   refine g8 (I.base.there T o q (by rw [F.ex]; simp)) fun o' e'=>?_
   rw [e] at e'
   cases e'
 ·cases q:H T with
  | none=>rfl
  | some o=>
   refine g8 (b13 I q) fun ob e'=>?_
   rw [e] at e'
   cases e'
 ·refine c6 (I.loc) fun m Z1 _=>?_; refine D0 (Z1) fun o _ _ e' _=>?_
  rw [z,e'] at e
  cases e
 ·refine l6 (I.cell x c ec) fun v o e' _=>?_
  rw [z,e] at e'
  cases e'
section
variable {M:Model}{E:Value→Shared→Prop}{Q:Unit→Shared→Prop}{a:Addr}{cls:Value}{dct:Option Addr}
theorem b0a {fs:List Addr}{h h':Heap}(k:a2u [] xs h h'):a2u fs xs h h':=⟨fun b o e _ nx=>k.keep b o e (by simp) nx,k.slot,k.there⟩
theorem noted (I:Inv X [] σ H s)(F:a9W X)(oa:Off X H a)(fl:b7Z X H a cls dct s.heap)(h:∀ h' T,Inv X [] σ H { s with heap:=h' }→TrD h' a T cls dct (rawInt X.env.locals)→Off X H T→Q () { s with heap:=h' }):wpAny M X.A (noteFrame (.ref a) X.env) Q E s:=by
 have hfr:X.A.frames=some (X.env::X.outer):=by rw [← F.stk]; exact I.ok.frames
 have hl:s.heap.FunFrames X.base (X.env::X.outer):=by rw [← F.stk]; exact I.stack
 have efr:frs (X.env::X.outer)=X.env.locals::X.fs:=by
  show List.filterMap _ _=_
  rw [List.filterMap_cons,F.fr]
  rfl
 rcases fl with ⟨oe,vs,e,rfl,rfl,d,h1⟩ | ⟨T,fl,t,oT,rfl | rfl⟩
 ·refine a8S hfr hl F.fr e d h1 fun h' T' k n t=>?_
  rw [efr] at k
  exact h h' T' (I.b2x F.pn k fun b hb=>by rw [List.mem_singleton.mp hb]; exact oa) t (a9f I F n)
 ·refine b0q hfr hl F.fr t fun h' T' k n t'=>?_
  rw [efr] at k
  exact h h' T' (I.b2x F.pn k fun b hb=>by
   refine Or.elim (List.mem_cons.mp hb) (fun z=>?_) fun z=>?_
   ·rw [z]; exact oa
   ·rw [List.mem_singleton.mp z]; exact oT) t' (a9f I F n)
 ·exact a8n F.fr t (h s.heap T I t oT)
theorem marked (f:Option Addr)(I:Inv X [] σ H s)(F:a9W X){T:Addr}{fl:Value}(t:TrD s.heap a T cls dct fl)(oT:Off X H T)(h:∀ h',Inv X [] σ H { s with heap:=h' }→TrD h' a T cls dct (f.elim Value.none fun b=>rawInt b)→Q () { s with heap:=h' }):wpAny M X.A (setFlight (.ref a) f) Q E s:=
 b4X t fun h' k t'=>h h' (I.b2x F.pn (b0a k) fun b hb=>by rw [List.mem_singleton.mp hb]; exact oT) t'
end
end
end L3
set_option Elab.async false
set_option linter.all false
set_option maxRecDepth 100000
set_option maxHeartbeats 4000000
namespace L3
open PySem PySem.Spec PyProof.Rows L2
noncomputable abbrev XP:=Exn→St→Hp→Prop
noncomputable def ExcAt (X:Cx)(x:Exn)(e:Value)(H:Hp)(s:Shared):Prop:=∃ a cls dct,e=.ref a∧b77 X.K H x cls dct∧Off X H a∧b7Z X H a cls dct s.heap∧a9W X
noncomputable def XE (X:Cx)(ξ:XP):Value→Shared→Prop:=fun e s'=>∃ x pins σ H,Inv X pins σ H s'∧ExcAt X x e H s'∧ξ x σ H
noncomputable abbrev rz (X:Cx)(ξ:XP):Cx:=X.Q5 (XE X ξ)
noncomputable abbrev Rel (α β:Type):=Bs→Hp→Hp→St→k9→β→α→Prop
noncomputable def C1:Rel W V:=fun B G H σ ρ v w=>D4 B G H σ ρ v w
noncomputable def a0L:Rel Bool Bool:=fun _ _ _ _ _ v b=>v=b
noncomputable def stb:W→Bool
 | .own _=>false
 | _=>true
noncomputable def K7:Rel (List W) (List V):=fun B G H σ ρ vs ws=>Paired (fun v w=>D4 B G H σ ρ v w∧stb w=true) vs ws
section
variable {α β α' β':Type}{rel:Rel α β}{rel':Rel α' β'}{B:Bs}{ξ:XP}{G H:Hp}{σ:St}{ρ:k9}
noncomputable def Post (rel:Rel α β)(B:Bs)(ξ:XP)(G:Hp)(σ:St)(Q:β→Hp→Prop):R' α→Prop
 | .ok w ρ'=>∀ v G' H',i6 G G'→RS B G' H' σ ρ'→rel B G' H' σ ρ' v w→Q v H'
 | .ex x ρ'=>∀ G' H',i6 G G'→RS B G' H' σ ρ'→ξ x σ H'
noncomputable def a0j (rel:Rel α β)(B:Bs)(ξ:XP)(G:Hp)(ρ:k9)(m:M α)(σ:St)(Q:β→Hp→Prop):Prop:=∃ r,m ρ=some r∧Post rel B ξ G σ Q r
noncomputable def TD (rel:Rel α β)(B:Bs)(ξ:XP)(m:M α):St→Hp→(β→Hp→Prop)→Prop:=fun σ H Q=>∃ G ρ,RS B G H σ ρ∧a0j rel B ξ G ρ m σ Q
theorem Post.same {Q:β→Hp→Prop}{r:R' α}{G':Hp}(s:i6 G G')(h:Post rel B ξ G σ Q r):Post rel B ξ G' σ Q r:=by
 cases r with
 | ok w ρ'=>exact fun v G2 H2 s2=>h v G2 H2 (s.trans s2)
 | ex x ρ'=>exact fun G2 H2 s2=>h G2 H2 (s.trans s2)
theorem a0j.mono {m:M α}{Q Q':β→Hp→Prop}(h:∀ v H,Q v H→Q' v H)(t:a0j rel B ξ G ρ m σ Q):a0j rel B ξ G ρ m σ Q':=by
 refine c6 (t) fun r e p=>?_
 refine ⟨r,e,?_⟩
 cases r with
 | ok w ρ'=>exact fun v G' H' s R q=>h v H' (p v G' H' s R q)
 | ex x ρ'=>exact p
theorem TD.mono {m:M α}{Q Q':β→Hp→Prop}(h:∀ v H,Q v H→Q' v H)(t:TD rel B ξ m σ H Q):TD rel B ξ m σ H Q':=by
 refine l6 (t) fun G ρ R t=>?_
 exact ⟨G,ρ,R,t.mono h⟩
theorem TD.bind {m:M α}{f:α→M α'}{Q:β'→Hp→Prop}(R:RS B G H σ ρ)(t:a0j rel' B ξ G ρ (M.bind m f) σ Q):
  TD rel B ξ m σ H (fun v H1=>∃ G1 ρ1 a,i6 G G1∧RS B G1 H1 σ ρ1∧rel B G1 H1 σ ρ1 v a∧a0j rel' B ξ G1 ρ1 (f a) σ Q):=by
 refine c6 (t) fun r e p=>?_
 cases hm:m ρ with
 | none=>rw [M.bind_none hm] at e; cases e
 | some r1=>
  cases r1 with
  | ex x ρ1=>
   rw [M.a3Q hm] at e
   cases e
   exact ⟨G,ρ,R,_,hm,p⟩
  | ok a ρ1=>
   rw [M.j8 hm] at e
   exact ⟨G,ρ,R,_,hm,fun v G1 H1 s R1 q=>⟨G1,ρ1,a,s,R1,q,r,e,p.same s⟩⟩
theorem TD.b5r {m:M α}{f:α→M α'}{Q:β'→Hp→Prop}(R:RS B G H σ ρ)(t:a0j rel' B ξ G ρ (M.bind m f) σ Q):
  TD rel B ξ m σ H (fun v H1=>∃ G1 ρ1 a,m ρ=some (.ok a ρ1)∧i6 G G1∧RS B G1 H1 σ ρ1∧rel B G1 H1 σ ρ1 v a∧a0j rel' B ξ G1 ρ1 (f a) σ Q):=by
 refine c6 (t) fun r e p=>?_
 cases hm:m ρ with
 | none=>rw [M.bind_none hm] at e; cases e
 | some r1=>
  cases r1 with
  | ex x ρ1=>
   rw [M.a3Q hm] at e
   cases e
   exact ⟨G,ρ,R,_,hm,p⟩
  | ok a ρ1=>
   rw [M.j8 hm] at e
   exact ⟨G,ρ,R,_,hm,fun v G1 H1 s R1 q=>⟨G1,ρ1,a,rfl,s,R1,q,r,e,p.same s⟩⟩
theorem a0j.step {m:M α}{f:α→M α'}{Q:β'→Hp→Prop}(t:a0j rel' B ξ G ρ (M.bind m f) σ Q)(hm:∀ r,m ρ=some r→∃ a ρ',r=.ok a ρ'):∃ a ρ',m ρ=some (.ok a ρ')∧a0j rel' B ξ G ρ' (f a) σ Q:=by
 refine c6 (t) fun r e p=>?_
 cases hr:m ρ with
 | none=>rw [M.bind_none hr] at e; cases e
 | some r1=>
  refine A6 (hm r1 hr) fun a ρ' Z1=>?_; subst Z1
  rw [M.j8 hr] at e
  exact ⟨a,ρ',rfl,r,e,p⟩
end
theorem _root_.L2.PE.imp {X:Cx}{e:Expr}{t t':TE}(h:PE X e t)(i:∀ σ H Q,t' σ H Q→t σ H Q):PE X e t':=fun pins s σ H Q I q=>h pins s σ H Q I (i σ H Q q)
theorem _root_.L2.PT.imp {X:Cx}{e:Expr}{t t':TT}(h:PT X e t)(i:∀ σ H Q,t' σ H Q→t σ H Q):PT X e t':=fun pins s σ H Q I q=>h pins s σ H Q I (i σ H Q q)
theorem _root_.L2.PW.imp {X:Cx}{e:Expr}{t t':TT}(h:PW X e t)(i:∀ σ H Q,t' σ H Q→t σ H Q):PW X e t':=fun wh pins s σ H Q I q=>h wh pins s σ H Q I (i σ H Q q)
theorem _root_.L2.PA.imp {X:Cx}{e:List Expr}{t t':TA}(h:PA X e t)(i:∀ σ H Q,t' σ H Q→t σ H Q):PA X e t':=fun pos pins s σ H Q I q=>h pos pins s σ H Q I (i σ H Q q)
theorem _root_.L2.PS.imp {X:Cx}{e:Stmt}{t t':TS}(h:PS X e t)(i:∀ D σ H,t' D σ H→t D σ H):PS X e t':=fun pins s σ H D I q=>h pins s σ H D I (i D σ H q)
theorem _root_.L2.PSs.imp {X:Cx}{e:List Stmt}{t t':TS}(h:PSs X e t)(i:∀ D σ H,t' D σ H→t D σ H):PSs X e t':=fun pins s σ H D I q=>h pins s σ H D I (i D σ H q)
structure PD (X:Cx) (B:Bs) (e:Expr) (m:M W):Prop where
 ap:∀ ξ,PE (rz X ξ) e (TD C1 B ξ m)
structure PDT (X:Cx) (B:Bs) (e:Expr) (m:M Bool):Prop where
 ap:∀ ξ,PT (rz X ξ) e (TD a0L B ξ m)
structure PDW (X:Cx) (B:Bs) (e:Expr) (m:M Bool):Prop where
 ap:∀ ξ,PW (rz X ξ) e (TD a0L B ξ m)
structure PDA (X:Cx) (B:Bs) (es:List Expr) (m:M (List W)):Prop where
 ap:∀ ξ,PA (rz X ξ) es (TD K7 B ξ m)
theorem PDW.pt {X:Cx}{B:Bs}{e:Expr}{m:M Bool}(h:PDW X B e m):PDT X B e m:=.mk fun ξ=>(h.ap ξ).pt
noncomputable def O3 (m:M W):M W:=M.bind m fun w=>match w with
 | .own d=>M.pure (.val d)
 | w=>M.pure w
theorem b1A {m:M W}{ρ ρ':k9}{d:D}(h:m ρ=some (.ok (.own d) ρ')):O3 m ρ=some (.ok (.val d) ρ'):=by unfold O3; rw [M.j8 h]; rfl
theorem b3a {m:M W}{ρ ρ':k9}{d:D}(h:m ρ=some (.ok (.val d) ρ')):O3 m ρ=some (.ok (.val d) ρ'):=by unfold O3; rw [M.j8 h]; rfl
theorem a90 {m:M W}{ρ ρ':k9}{i:Nat}(h:m ρ=some (.ok (.slot i) ρ')):O3 m ρ=some (.ok (.slot i) ρ'):=by unfold O3; rw [M.j8 h]; rfl
noncomputable def a3I:Rel W V:=fun B G H σ ρ v w=>D4 B G H σ ρ v w∧stb w=true
section
variable {X:Cx}{B:Bs}{e a b c:Expr}{ma mb mc:M W}{pos:Pos}
theorem TD.O3 {ξ:XP}{m:M W}{σ:St}{H:Hp}{Q:VK}(t:TD a3I B ξ (O3 m) σ H Q):TD C1 B ξ m σ H Q:=by
 refine l6 (t) fun G ρ R t=>?_
 have t2:=TD.bind (rel:=C1) R t
 refine t2.mono fun v H1 Z0=>n6 (Z0) fun G1 ρ1 w s R1 q t3=>?_
 refine c6 (t3) fun r er p=>?_
 cases w with
 | val d=>cases er; exact p v G1 H1 (i6.refl _) R1 ⟨q,rfl⟩
 | slot i=>cases er; exact p v G1 H1 (i6.refl _) R1 ⟨q,rfl⟩
 | own d=>
  cases er
  refine x6 (q) fun pp Z1 g h0 o ne=>?_; subst Z1
  refine j7 (R1.frz g h0 o ne) fun G' s' R' rr=>?_
  exact p _ G' H1 s' R' ⟨rr,rfl⟩
theorem D4.keep {G G' H H':Hp}{σ:St}{ρ ρ':k9}{v:V}{w:W}(s:i6 G G')(h:D4 B G H σ ρ v w)(hw:stb w=true):D4 B G' H' σ ρ' v w:=
 h.same s fun d z=>by rw [z] at hw; cases hw
noncomputable def op2 (f:D→D→Option W)(a b:W):M W:=fun ρ=>match getD a ρ,getD b ρ with
 | some x,some y=>(f x y).map (R'.ok · ρ)
 | _,_=>none
noncomputable def op1 (f:D→Option W)(a:W):M W:=fun ρ=>match getD a ρ with
 | some x=>(f x).map (R'.ok · ρ)
 | _=>none
noncomputable def g9 (f:D→D→Option W)(ma mb:M W):M W:=M.bind (O3 ma) fun x=>M.bind mb fun y=>op2 f x y
noncomputable def mUn (f:D→Option W)(ma:M W):M W:=M.bind ma fun x=>op1 f x
noncomputable def a0R (B:Bs)(r:R2)(f:D→D→Option W):Prop:=∀ {G H:Hp} {σ:St} {ρ:k9} {x y:V} {dx dy:D} {w:W} {Q:VK},RS B G H σ ρ→L0 B.K G H x dx→L0 B.K G H y dy→f dx dy=some w→
 (∀ v G' H',i6 G G'→RS B G' H' σ ρ→D4 B G' H' σ ρ v w→Q v H')→r x y H Q
noncomputable def b1g (B:Bs)(r:V→Hp→VK→Prop)(f:D→Option W):Prop:=∀ {G H:Hp} {σ:St} {ρ:k9} {x:V} {dx:D} {w:W} {Q:VK},RS B G H σ ρ→L0 B.K G H x dx→f dx=some w→
 (∀ v G' H',i6 G G'→RS B G' H' σ ρ→D4 B G' H' σ ρ v w→Q v H')→r x H Q
theorem a9B {ξ:XP}{f:D→D→Option W}{x y:W}{G:Hp}{ρ:k9}{σ:St}{Q:VK}(t:a0j C1 B ξ G ρ (op2 f x y) σ Q):∃ dx dy w,getD x ρ=some dx∧getD y ρ=some dy∧f dx dy=some w∧∀ v G' H',i6 G G'→RS B G' H' σ ρ→D4 B G' H' σ ρ v w→Q v H':=by
 refine c6 (t) fun r e p=>?_
 unfold op2 at e
 cases hx:getD x ρ with
 | none=>rw [hx] at e; cases e
 | some dx=>
  cases hy:getD y ρ with
  | none=>rw [hx,hy] at e; cases e
  | some dy=>
   rw [hx,hy] at e
   simp only [] at e
   cases hf:f dx dy with
   | none=>rw [hf] at e; cases e
   | some w=>
    rw [hf] at e
    cases e
    exact ⟨dx,dy,w,rfl,rfl,hf,p⟩
theorem a9e {ξ:XP}{f:D→Option W}{x:W}{G:Hp}{ρ:k9}{σ:St}{Q:VK}(t:a0j C1 B ξ G ρ (op1 f x) σ Q):∃ dx w,getD x ρ=some dx∧f dx=some w∧∀ v G' H',i6 G G'→RS B G' H' σ ρ→D4 B G' H' σ ρ v w→Q v H':=by
 refine c6 (t) fun r e p=>?_
 unfold op1 at e
 cases hx:getD x ρ with
 | none=>rw [hx] at e; cases e
 | some dx=>
  rw [hx] at e
  simp only [] at e
  cases hf:f dx with
  | none=>rw [hf] at e; cases e
  | some w=>
   rw [hf] at e
   cases e
   exact ⟨dx,w,rfl,hf,p⟩
theorem a6v {ξ:XP}{r:R2}{f:D→D→Option W}(hi:a0R B r f){σ:St}{H:Hp}{Q:VK}(t:TD C1 B ξ (g9 f ma mb) σ H Q):tOp r (TD C1 B ξ ma) (TD C1 B ξ mb) σ H Q:=by
 refine l6 (t) fun G ρ R t=>?_
 have t1:TD a3I B ξ (O3 ma) σ H _:=TD.bind (rel:=a3I) R t
 refine TD.O3 (t1.mono fun x H1 Z9=>n6 Z9 fun G1 ρ1 wa s1 R1 Z9 t2=>f9 Z9 fun q1 st1=>?_)
 refine (TD.bind (rel:=C1) R1 t2).mono fun y H2 Z0=>n6 (Z0) fun G2 ρ2 wb s2 R2 q2 t3=>?_
 refine n6 (a9B t3) fun dx dy w e1 e2 e3 p=>?_
 exact hi R2 ((q1.keep s2 st1:D4 B G2 H2 σ ρ2 x wa).get R2 e1) (q2.get R2 e2) e3 p
theorem a8N {ξ:XP}{r:V→Hp→VK→Prop}{f:D→Option W}(hi:b1g B r f){σ:St}{H:Hp}{Q:VK}(t:TD C1 B ξ (mUn f ma) σ H Q):tUn r (TD C1 B ξ ma) σ H Q:=by
 refine l6 (t) fun G ρ R t=>?_
 refine (TD.bind (rel:=C1) R t).mono fun x H1 Z0=>n6 (Z0) fun G1 ρ1 wa s1 R1 q1 t2=>?_
 refine i9 (a9e t2) fun dx w e1 e2 p=>?_
 exact hi R1 (q1.get R1 e1) e2 p
theorem a4R {op:Operator}{r:R2}{f:D→D→Option W}(ho:∀ ξ,OpR (rz X ξ) (binaryOp op) r)(hi:a0R B r f)(ha:PD X B a ma)(hb:PD X B b mb):PD X B (.BinOp a op b pos) (g9 f ma mb):=.mk fun ξ=>
 (b7n (ho ξ) (ha.ap ξ) (hb.ap ξ)).imp fun _ _ _ t=>a6v hi t
theorem b8v {op:UnaryOp}{r:V→Hp→VK→Prop}{f:D→Option W}(ho:∀ ξ,UnR (rz X ξ) (unaryOp op) r)(hi:b1g B r f)(ha:PD X B a ma):PD X B (.UnaryOp op a pos) (mUn f ma):=.mk fun ξ=>
 (b8y (ho ξ) (ha.ap ξ)).imp fun _ _ _ t=>a8N hi t
theorem a4G {op:CmpOp}{r:R2}{f:D→D→Option W}(ho:∀ ξ,OpR (rz X ξ) (compareOp op) r)(hi:a0R B r f)(ha:PD X B a ma)(hb:PD X B b mb)(hm:behindInMarks op b=false):PD X B (.Compare a [op] [b] pos) (g9 f ma mb):=.mk fun ξ=>
 (b3U (ho ξ) (ha.ap ξ) (hb.ap ξ) hm).imp fun _ _ _ t=>a6v hi t
noncomputable def x9 (m:M W):M Bool:=M.bind m fun w=>fun ρ=>match w with
 | .val (.bl b)=>some (.ok b ρ)
 | _=>none
theorem a8H {ξ:XP}{σ:St}{H:Hp}{Q:Bool→Hp→Prop}{m:M W}(t:TD a0L B ξ (x9 m) σ H Q):TD C1 B ξ m σ H fun x H'=>∃ k,x=.bl k∧Q k H':=by
 refine l6 (t) fun G ρ R t=>?_
 refine (TD.bind (rel:=C1) R t).mono fun x H1 Z0=>n6 (Z0) fun G1 ρ1 w s1 R1 q1 Z9=>c6 Z9 fun r e p=>?_
 cases w with
 | val d=>
  cases d with
  | bl k=>
   cases e
   have q2:Rep B.K G1 x (.bl k):=q1
   cases q2
   exact ⟨k,rfl,p k G1 H1 (i6.refl _) R1 rfl⟩
  | _=>cases e
 | _=>cases e
theorem X5 {op:CmpOp}{r:R2}{f:D→D→Option W}(ho:∀ ξ,OpR (rz X ξ) (compareOp op) r)(hi:a0R B r f)(ha:PD X B a ma)(hb:PD X B b mb)(hm:behindInMarks op b=false):PDT X B (.Compare a [op] [b] pos) (x9 (g9 f ma mb)):=.mk fun ξ=>
 (b4I (ho ξ) (ha.ap ξ) (hb.ap ξ) hm).imp fun _ _ _ t=>TD.mono (fun _ _ q=>q) (a6v hi (a8H t))
noncomputable def d8 (i:Nat):M W:=fun ρ=>match ρ[i]? with
 | some (some _)=>some (.ok (.slot i) ρ)
 | _=>none
noncomputable def mC (d:D):M W:=M.pure (.val d)
theorem b6N {ξ:XP}{i:Nat}{σ:St}{H:Hp}{Q:VK}(t:TD C1 B ξ (d8 i) σ H Q):b5F i σ H Q:=by
 refine l6 (t) fun G ρ R Z9=>c6 Z9 fun r e p=>?_
 unfold d8 at e
 cases h:ρ[i]? with
 | none=>rw [h] at e; cases e
 | some o=>
  cases o with
  | none=>rw [h] at e; cases e
  | some c=>
   rw [h] at e
   cases e
   have hv:∃ v,σ[i]?=some (some v):=by
    cases c with
    | sh d=>refine c6 (R.sh i d h) fun v q _=>?_; exact ⟨v,q⟩
    | ow l d=>refine c6 (R.ow i l d h) fun v q _=>?_; exact ⟨_,q⟩
    | fz es=>refine D0 (R.fz i es h) fun a o kvs q _=>?_; exact ⟨_,q⟩
    | ob l fds=>refine b5p (R.ob.1 i l fds h) fun _ _ _ _ _ _ q _=>?_; exact ⟨_,q⟩
    | rd fds=>refine b5j (R.ob.2 i fds h) fun _ _ _ _ _ _ _ q _=>?_; exact ⟨_,q⟩
   refine g8 (hv) fun v q=>?_
   exact ⟨v,q,p v G H (i6.refl _) R q⟩
theorem b1b {ξ:XP}{d:D}{v:V}(hv:∀ G,Rep B.K G v d){σ:St}{H:Hp}{Q:VK}(t:TD C1 B ξ (mC d) σ H Q):tC v σ H Q:=by
 refine l6 (t) fun G ρ R Z9=>c6 Z9 fun r e p=>?_
 cases e
 exact p v G H (i6.refl _) R (hv G)
theorem dv (i:Nat){x:Str}{pos:Pos}(hN:autoParam (X.N[i]?=some x) m6._auto_1)(hv:autoParam (Vis X.env.scope x) au0._auto_1)(hd:autoParam ((x == ("__debug__":Str))=false) Y0._auto_1) (hcd:autoParam ((x == ("__classdict__":Str))=false) Y0._auto_1):PD X B (.Name x pos) (d8 i):=.mk fun ξ=>
 (a0u (X:=rz X ξ) hN hv hd hcd).imp fun _ _ _ t=>b6N t
theorem k8 {i j pos}:PD X B (.Constant (.int i) j pos) (mC (.int i)):=.mk fun ξ=>(b67 (X:=rz X ξ)).imp fun _ _ _ t=>b1b (fun _=>.int i) t
theorem a0z {b j pos}:PD X B (.Constant (.bool b) j pos) (mC (.bl b)):=.mk fun ξ=>(b7E (X:=rz X ξ)).imp fun _ _ _ t=>b1b (fun _=>.bl b) t
theorem b3d {j pos}:PD X B (.Constant .none j pos) (mC .w6):=.mk fun ξ=>(b5L (X:=rz X ξ)).imp fun _ _ _ t=>b1b (fun _=>.w6) t
theorem a3M {K:PySem.W.Frag}{G:Hp}(x:Str):Rep K G (.str x) (.str x.cps.toList):=by
 have e:=b5J x
 have r:=Rep.str (K:=K) (G:=G) x.cps.toList
 rw [e] at r
 exact r
theorem b72 {x j pos}:PD X B (.Constant (.str x) j pos) (mC (.str x.cps.toList)):=.mk fun ξ=>(b5E (X:=rz X ξ)).imp fun _ _ _ t=>b1b (fun _=>a3M x) t
theorem a5w {x:Str}{v:V}{d:D}(h:Cst X.mg x v)(hv:∀ G,Rep B.K G v d)(hg:autoParam (Gl X x) m6._auto_1)(hd:autoParam ((x == ("__debug__":Str))=false) Y0._auto_1):PD X B (.Name x pos) (mC d):=.mk fun ξ=>
 (b9Q (X:=rz X ξ) h hg hd).imp fun _ _ _ t=>b1b hv t
end
noncomputable def grd (p:Prop)[Decidable p]{α:Type}(x:Option α):Option α:=if p then x else none
theorem A4 {p:Prop}[Decidable p]{α:Type}{x:Option α}(h:p):grd p x=x:=if_pos h
theorem z7 {p:Prop}[Decidable p]{α:Type}{x:Option α}{a:α}(h:grd p x=some a):p∧x=some a:=by
 unfold grd at h
 split at h
 ·exact ⟨‹p›,h⟩
 ·cases h
noncomputable def vI (i:Int):Option W:=some (.val (.int i))
noncomputable def vB (b:Bool):Option W:=some (.val (.bl b))
noncomputable def small (n:Nat):Prop:=n≤1000000
instance (n:Nat):Decidable (small n):=inferInstanceAs (Decidable (n≤1000000))
noncomputable def O8:D→D→Option W
 | .int i,.int j=>vI (i + j)
 | _,_=>none
noncomputable def b6s:D→D→Option W
 | .int i,.int j=>vI (i - j)
 | _,_=>none
instance (i j:Int):Decidable (a60 i j):=by unfold a60; infer_instance
instance (i j:Int):Decidable (b0y i j):=by unfold b0y; infer_instance
noncomputable def a17:D→D→Option W
 | .int i,.int j=>grd (a60 i j) (vI (i * j))
 | _,_=>none
noncomputable def b0E:D→D→Option W
 | .int i,.int j=>grd (b0y i j) (vI (i / j))
 | _,_=>none
noncomputable def a0e:D→D→Option W
 | .int i,.int j=>grd (0 < j) (vI (i % j))
 | _,_=>none
noncomputable def a0U:D→Option W
 | .int i=>vI (-i)
 | _=>none
noncomputable def a08 (f:Int→Int→Bool):D→D→Option W
 | .int i,.int j=>vB (f i j)
 | _,_=>none
theorem U4 {n:Nat}(h:small n):n≤sizeLine:=by unfold small at h; rw [sizeLine_eq]; omega
section
variable {X:Cx}{B:Bs}{e a b c:Expr}{ma mb mc:M W}{pos:Pos}
theorem b4y {g:Int→Int→Int}{f:D→D→Option W}(hf:∀ dx dy w,f dx dy=some w→∃ i j,dx=.int i∧dy=.int j∧w=.val (.int (g i j))):a0R B (rI0 fun i j=>.int (g i j)) f:=by
 intro G H σ ρ x y dx dy w Q R hx hy e p
 refine i9 (hf _ _ _ e) fun i j Z1 Z2 Z3=>?_; subst Z1; subst Z2; subst Z3
 exact ⟨i,j,hx.int,hy.int,p _ G H (i6.refl _) R (.int _)⟩
theorem a8o {P:Int→Int→Prop}{g:Int→Int→Int}{f:D→D→Option W}(hf:∀ dx dy w,f dx dy=some w→∃ i j,dx=.int i∧dy=.int j∧P i j∧w=.val (.int (g i j))):a0R B (rI P fun i j=>.int (g i j)) f:=by
 intro G H σ ρ x y dx dy w Q R hx hy e p
 refine R8 (hf _ _ _ e) fun i j Z1 Z2 hp Z3=>?_; subst Z1; subst Z2; subst Z3
 exact ⟨i,j,hx.int,hy.int,hp,p _ G H (i6.refl _) R (.int _)⟩
theorem a3U (g:Int→Int→Bool):a0R B (rI0 fun i j=>.bl (g i j)) (a08 g):=by
 intro G H σ ρ x y dx dy w Q R hx hy e p
 cases dx <;> cases dy <;> first | cases e | skip
 exact ⟨_,_,hx.int,hy.int,p _ G H (i6.refl _) R (.bl _)⟩
theorem b3m:a0R B (rI0 fun i j=>.int (i - j)) b6s:=b4y fun dx dy w e=>by
 cases dx <;> cases dy <;> first | cases e | skip
 exact ⟨_,_,rfl,rfl,rfl⟩
theorem b1z:a0R B (rI a60 fun i j=>.int (i * j)) a17:=a8o fun dx dy w e=>by
 cases dx <;> cases dy <;> first | cases e | skip
 refine f9 (z7 e) fun h e=>?_
 cases e
 exact ⟨_,_,rfl,rfl,h,rfl⟩
theorem b2Q:a0R B (rI b0y fun i j=>.int (i / j)) b0E:=a8o fun dx dy w e=>by
 cases dx <;> cases dy <;> first | cases e | skip
 refine f9 (z7 e) fun h e=>?_
 cases e
 exact ⟨_,_,rfl,rfl,h,rfl⟩
theorem b1Q:a0R B (rI (fun _ j=>0 < j) fun i j=>.int (i % j)) a0e:=a8o fun dx dy w e=>by
 cases dx <;> cases dy <;> first | cases e | skip
 refine f9 (z7 e) fun h e=>?_
 cases e
 exact ⟨_,_,rfl,rfl,h,rfl⟩
theorem b1t:b1g B (rU fun i=>.int (-i)) a0U:=by
 intro G H σ ρ x dx w Q R hx e p
 cases dx <;> first | cases e | skip
 exact ⟨_,hx.int,p _ G H (i6.refl _) R (.int _)⟩
theorem b8t (ha:PD X B a ma)(hb:PD X B b mb):PD X B (.BinOp a .Sub b pos) (g9 b6s ma mb):=a4R (fun _=>b6z) b3m ha hb
theorem a1p (ha:PD X B a ma)(hb:PD X B b mb):PD X B (.BinOp a .Mult b pos) (g9 a17 ma mb):=a4R (fun _=>b6p) b1z ha hb
theorem b1L (ha:PD X B a ma)(hb:PD X B b mb):PD X B (.BinOp a .FloorDiv b pos) (g9 b0E ma mb):=a4R (fun _=>b3D) b2Q ha hb
theorem Z4 (ha:PD X B a ma)(hb:PD X B b mb):PD X B (.BinOp a .Mod b pos) (g9 a0e ma mb):=a4R (fun _=>b6R) b1Q ha hb
theorem a2n (ha:PD X B a ma):PD X B (.UnaryOp .USub a pos) (mUn a0U ma):=b8v (fun _=>b57) b1t ha
theorem N7 (ha:PD X B a ma)(hb:PD X B b mb)(hK:autoParam (X.K=B.K) m6._auto_1):PD X B (.BinOp a .Add b pos) (g9 O8 ma mb):=by
 refine a4R (fun ξ=>b6r (X:=rz X ξ)) ?_ ha hb
 intro G H σ ρ x y dx dy w Q R hx hy e p
 cases dx <;> cases dy <;> first | cases e | skip
 exact ⟨_,_,hx.int,hy.int,p _ G H (i6.refl _) R (.int _)⟩
theorem b9e (ha:PD X B a ma)(hb:PD X B b mb):PD X B (.Compare a [.Gt] [b] pos) (g9 (a08 fun i j=>decide (j < i)) ma mb):=a4G (fun _=>b5m) (a3U _) ha hb (a1S _)
theorem b86 (ha:PD X B a ma)(hb:PD X B b mb):PDT X B (.Compare a [.Lt] [b] pos) (x9 (g9 (a08 fun i j=>decide (i < j)) ma mb)):=X5 (fun _=>b8s) (a3U _) ha hb (a1S _)
theorem b9m (ha:PD X B a ma)(hb:PD X B b mb):PDT X B (.Compare a [.LtE] [b] pos) (x9 (g9 (a08 fun i j=>decide (i≤j)) ma mb)):=X5 (fun _=>b8H) (a3U _) ha hb (a1S _)
theorem b8u (ha:PD X B a ma)(hb:PD X B b mb):PDT X B (.Compare a [.Gt] [b] pos) (x9 (g9 (a08 fun i j=>decide (j < i)) ma mb)):=X5 (fun _=>b5m) (a3U _) ha hb (a1S _)
end
end L3
set_option Elab.async false
set_option linter.all false
set_option maxRecDepth 100000
set_option maxHeartbeats 4000000
namespace L3
open PySem PySem.Spec PyProof.Rows L2
noncomputable def eqL (f:D→D→Option Bool):List D→List D→Option Bool
 | [],[]=>some true
 | [],_::_=>some false
 | _::_,[]=>some false
 | x::xs,y::ys=>match f x y,eqL f xs ys with
  | some a,some b=>some (a && b)
  | _,_=>none
noncomputable def eqF:D→D→Option Bool
 | .w6,.w6=>some true
 | .bl a,.bl b=>some (a == b)
 | .int a,.int b=>some (a == b)
 | .str a,.str b=>some (a == b)
 | .w6,.bl _=>some false
 | .w6,.int _=>some false
 | .w6,.str _=>some false
 | .bl _,.w6=>some false
 | .int _,.w6=>some false
 | .str _,.w6=>some false
 | .tup _,.w6=>some false
 | .lst _,.w6=>some false
 | _,_=>none
noncomputable def eqD:Nat→D→D→Option Bool
 | n + 1,.tup a,.tup b=>eqL (eqD n) a b
 | n + 1,.lst a,.lst b=>eqL (eqD n) a b
 | _,d,e=>eqF d e
theorem a9k {f:D→D→Option Bool}:∀ {xs ys:List D} {b:Bool},eqL f xs ys=some b→xs.length≠ys.length→b=false
 | [],[],_,_,h=>absurd rfl h
 | [],_::_,_,e,_=>by cases e; rfl
 | _::_,[],_,e,_=>by cases e; rfl
 | x::xs,y::ys,b,e,h=>by
  unfold eqL at e
  cases h1:f x y with
  | none=>rw [h1] at e; cases e
  | some p=>
   cases h2:eqL f xs ys with
   | none=>rw [h1,h2] at e; cases e
   | some q=>
    rw [h1,h2] at e
    cases e
    rw [a9k h2 (by simpa using h),Bool.and_false]
theorem a51 {f:D→D→Option Bool}:∀ {xs ys:List D} {b:Bool},eqL f xs ys=some b→∃ g:Nat→Bool,(∀ (j:Nat) x y,xs[j]?=some x→ys[j]?=some y→f x y=some (g j))∧b=((List.range (min xs.length ys.length)).all g && (xs.length == ys.length))
 | [],[],_,e=>by cases e; exact ⟨fun _=>true,fun j x y h=>by simp at h,rfl⟩
 | [],_::_,_,e=>by cases e; exact ⟨fun _=>true,fun j x y h=>by simp at h,by simp⟩
 | _::_,[],_,e=>by cases e; exact ⟨fun _=>true,fun j x y _ h=>by simp at h,by simp⟩
 | x::xs,y::ys,b,e=>by
  unfold eqL at e
  cases h1:f x y with
  | none=>rw [h1] at e; cases e
  | some p=>
   cases h2:eqL f xs ys with
   | none=>rw [h1,h2] at e; cases e
   | some q=>
    rw [h1,h2] at e
    cases e
    refine c6 (a51 h2) fun g hg hq=>?_
    refine ⟨fun j=>if j=0 then p else g (j - 1),fun j x' y' a c=>?_,?_⟩
    ·cases j with
     | zero=>simp at a c; subst a c; simpa using h1
     | succ j=>simpa using hg j x' y' (by simpa using a) (by simpa using c)
    ·have em:min (x::xs).length (y::ys).length=min xs.length ys.length + 1:=by simp only [List.length_cons]; omega
     rw [em,List.range_succ_eq_map,List.all_cons,List.all_map,hq,List.length_cons,List.length_cons]
     simp only [if_pos,Bool.and_assoc]
     congr 2
     simp
theorem a62 {f:D→D→Option Bool}{xs ys:List D}{b:Bool}(h:eqL f xs ys=some b)(hl:xs.length=ys.length):∃ g:Nat→Bool,(∀ (j:Nat) x y,xs[j]?=some x→ys[j]?=some y→f x y=some (g j))∧b=(List.range xs.length).all g:=by
 refine c6 (a51 h) fun g h1 h2=>?_
 refine ⟨g,h1,?_⟩
 rw [h2,hl]
 simp
theorem L0.rep {K:PySem.W.Frag}{G H:Hp}{v:V}{d:D}(g:i6 G H)(h:L0 K G H v d):Rep K H v d:=by
 rcases h with h | ⟨p,rfl,h⟩
 ·exact h.same g
 ·cases d with
  | lst ds=>
   refine c6 (h) fun xs e r=>?_
   have r':=r.same g
   exact .lst (L5.of e) r'.len r'.get
  | dct es=>
   refine c6 (h) fun xs e r=>?_
   have r':=r.same g
   exact .dct (.inl e) r'.keys r'.get
  | _=>exact (show False from h).elim
section
variable {X:Cx}{pins:List (Addr×Obj)}{σ:St}{H:Hp}{s:Shared}
theorem str_beq (a b:List Nat):(tx a == tx b)=(a == b):=by
 rw [Bool.eq_iff_iff,beq_iff_eq,beq_iff_eq]
 exact b1Z
theorem b4r {A:Around}{a b:Addr}{xs ys:List V}{ds es:List D}{g:Nat→Bool}(I:Inv X pins σ H s)(h1:Y8 X.K H a xs)(h2:Y8 X.K H b ys)(l1:xs.length=ds.length)(l2:ys.length=es.length)(hu:A.units < cLine)
  (ih:∀ (j:Nat) x y v u,xs[j]?=some x→ys[j]?=some y→RelV x v→RelV y u→SeqAt.EqAt A.in1 s v u (g j)):
  SeqAt.RcAt A s (.ref a) (.ref b) ((List.range (min ds.length es.length)).all g && (ds.length == es.length))∧SeqAt.RcNeAt A s (.ref a) (.ref b) (!((List.range (min ds.length es.length)).all g && (ds.length == es.length))):=by
 refine j7 (I.tuple h1) fun its rv p _=>?_
 refine j7 (I.tuple h2) fun its2 rv2 p2 _=>?_
 have k1:=rv.length
 have k2:=rv2.length
 have he:∀ j (z1:j < its.toArray.size) (z2:j < its2.toArray.size),SeqAt.EqAt A.in1 s its.toArray[j] its2.toArray[j] (g j):=fun j z1 z2=>by
  have h1':j < xs.length:=by simpa [← k1] using z1
  have h2':j < ys.length:=by simpa [← k2] using z2
  refine c6 (rv.get (i:=j) (x:=xs[j]) (by simp [h1'])) fun v1 e1 r1=>?_
  refine c6 (rv2.get (i:=j) (x:=ys[j]) (by simp [h2'])) fun v2 e2 r2=>?_
  have f1:its.toArray[j]=v1:=by
   have:=(List.getElem?_eq_some_iff.mp e1).2
   simpa using this
  have f2:its2.toArray[j]=v2:=by
   have:=(List.getElem?_eq_some_iff.mp e2).2
   simpa using this
  rw [f1,f2]
  exact ih j _ _ _ _ (by simp [h1']) (by simp [h2']) r1 r2
 have q1:=SeqAt.RcAt.tuples (e:=g) (A:=A) p p2 hu he
 have q2:=SeqAt.RcNeAt.tuples (e:=g) (A:=A) p p2 hu he
 have e1:its.toArray.size=ds.length:=by rw [List.size_toArray]; omega
 have e2:its2.toArray.size=es.length:=by rw [List.size_toArray]; omega
 rw [e1,e2] at q1 q2
 exact ⟨q1,q2⟩
theorem b3G {A:Around}{a b:Addr}{xs ys:List V}{ds es:List D}{f:D→D→Option Bool}{r:Bool}(I:Inv X pins σ H s)(h1:L5 X.K H a xs)(h2:L5 X.K H b ys)(l1:xs.length=ds.length)(l2:ys.length=es.length)(hu:A.units < cLine)
  (hr:eqL f ds es=some r) (ih:∀ (j:Nat) x y d e k v u,xs[j]?=some x→ys[j]?=some y→ds[j]?=some d→es[j]?=some e→f d e=some k→RelV x v→RelV y u→SeqAt.EqAt A.in1 s v u k):
  SeqAt.RcAt A s (.ref a) (.ref b) r∧SeqAt.RcNeAt A s (.ref a) (.ref b) (!r):=by
 refine j7 (I.list h1) fun its rv p _=>?_
 refine j7 (I.list h2) fun its2 rv2 p2 _=>?_
 have k1:=rv.length
 have k2:=rv2.length
 have e1:its.toArray.size=ds.length:=by rw [List.size_toArray]; omega
 have e2:its2.toArray.size=es.length:=by rw [List.size_toArray]; omega
 by_cases hl:ds.length=es.length
 ·refine c6 (a62 hr hl) fun g hg hb=>?_
  have he:∀ j (z1:j < its.toArray.size) (z2:j < its2.toArray.size),SeqAt.EqAt A.in1 s its.toArray[j] its2.toArray[j] (g j):=fun j z1 z2=>by
   have h1':j < xs.length:=by simpa [← k1] using z1
   have h2':j < ys.length:=by simpa [← k2] using z2
   have h3':j < ds.length:=by omega
   have h4':j < es.length:=by omega
   refine c6 (rv.get (i:=j) (x:=xs[j]) (by simp [h1'])) fun v1 e1 r1=>?_
   refine c6 (rv2.get (i:=j) (x:=ys[j]) (by simp [h2'])) fun v2 e2 r2=>?_
   have f1:its.toArray[j]=v1:=by
    have:=(List.getElem?_eq_some_iff.mp e1).2
    simpa using this
   have f2:its2.toArray[j]=v2:=by
    have:=(List.getElem?_eq_some_iff.mp e2).2
    simpa using this
   rw [f1,f2]
   exact ih j _ _ ds[j] es[j] _ _ _ (by simp [h1']) (by simp [h2']) (by simp [h3']) (by simp [h4']) (hg j _ _ (by simp [h3']) (by simp [h4'])) r1 r2
  have q1:=SeqAt.RcAt.lists (e:=g) (A:=A) p.isList p2.isList (by omega) hu he
  have q2:=SeqAt.RcNeAt.lists (e:=g) (A:=A) p.isList p2.isList (by omega) hu he
  rw [e1,← hb] at q1 q2
  exact ⟨q1,q2⟩
 ·have hb:=a9k hr hl
  subst hb
  have hne:(its.toArray.size != its2.toArray.size)=true:=by rw [e1,e2]; simpa using hl
  exact ⟨SeqAt.RcAt.lists_lengths p.isList p2.isList hne hu,SeqAt.RcNeAt.lists_lengths p.isList p2.isList hne hu⟩
theorem a9u {d e:D}{b:Bool}(h:eqF d e=some b)(I:Inv X pins σ H s){A:Around}{x y:V}{v u:Value}(hx:Rep X.K H x d)(hy:Rep X.K H y e)(rx:RelV x v)(ry:RelV y u)(hu':A.units < cLine):
  SeqAt.EqAt A s v u b∧SeqAt.RcAt A s v u b∧SeqAt.RcNeAt A s v u (!b):=by
 cases hx with
 | w6=>
  cases rx
  cases hy with
  | w6=>cases h; cases ry; exact ⟨SeqAt.EqAt.same _,SeqAt.RcAt.none_none,SeqAt.RcNeAt.none_none⟩
  | bl _=>cases h; cases ry; exact ⟨SeqAt.EqAt.none_bool _,SeqAt.RcAt.none_bool _,SeqAt.RcNeAt.none_bool _⟩
  | int _=>cases h; refine g8 (ry) fun t Z1=>?_; subst Z1; exact ⟨SeqAt.EqAt.none_int _ _,SeqAt.RcAt.none_int _ _,SeqAt.RcNeAt.none_int _ _⟩
  | str _=>cases h; refine g8 (ry) fun t Z1=>?_; subst Z1; exact ⟨SeqAt.EqAt.none_str _ _,SeqAt.RcAt.none_str _ _,SeqAt.RcNeAt.none_str _ _⟩
  | ty _=>cases h
  | tup _ _ _=>cases h
  | lst _ _ _=>cases h
  | dct _ _ _=>cases h
 | bl _=>
  cases rx
  cases hy with
  | w6=>cases h; cases ry; exact ⟨SeqAt.EqAt.bool_none _,SeqAt.RcAt.bool_none _,SeqAt.RcNeAt.bool_none _⟩
  | bl _=>cases h; cases ry; exact ⟨SeqAt.EqAt.bool_bool _ _,SeqAt.RcAt.bool_bool _ _,SeqAt.RcNeAt.bool_bool _ _⟩
  | int _=>cases h
  | str _=>cases h
  | ty _=>cases h
  | tup _ _ _=>cases h
  | lst _ _ _=>cases h
  | dct _ _ _=>cases h
 | int _=>
  refine g8 (rx) fun t Z1=>?_; subst Z1
  cases hy with
  | w6=>cases h; cases ry; exact ⟨SeqAt.EqAt.int_none _ _,SeqAt.RcAt.int_none _ _,SeqAt.RcNeAt.int_none _ _⟩
  | int _=>cases h; refine g8 (ry) fun t' Z1=>?_; subst Z1; exact ⟨SeqAt.EqAt.int_int _ _ _ _,SeqAt.RcAt.int_int _ _ _ _,SeqAt.RcNeAt.int_int _ _ _ _⟩
  | bl _=>cases h
  | str _=>cases h
  | ty _=>cases h
  | tup _ _ _=>cases h
  | lst _ _ _=>cases h
  | dct _ _ _=>cases h
 | str cs=>
  refine g8 (rx) fun t Z1=>?_; subst Z1
  cases hy with
  | w6=>cases h; cases ry; exact ⟨SeqAt.EqAt.str_none _ _,SeqAt.RcAt.str_none _ _,SeqAt.RcNeAt.str_none _ _⟩
  | str cs'=>
   have hb:(cs == cs')=b:=Option.some.inj h
   rw [← hb,← str_beq]
   refine g8 (ry) fun t' Z1=>?_; subst Z1
   exact ⟨SeqAt.EqAt.str_str _ _ _ _,SeqAt.RcAt.str_str _ _ _ _,SeqAt.RcNeAt.str_str _ _ _ _⟩
  | bl _=>cases h
  | int _=>cases h
  | ty _=>cases h
  | tup _ _ _=>cases h
  | lst _ _ _=>cases h
  | dct _ _ _=>cases h
 | ty _=>cases hy <;> cases h
 | tup h1 _ _=>
  cases rx
  cases hy with
  | w6=>
   cases h
   cases ry
   refine j7 (I.tuple h1) fun its _ p _=>?_
   exact ⟨SeqAt.EqAt.tuple_none p hu',SeqAt.RcAt.tuple_none p hu',SeqAt.RcNeAt.tuple_none p hu'⟩
  | bl _=>cases h
  | int _=>cases h
  | str _=>cases h
  | ty _=>cases h
  | tup _ _ _=>cases h
  | lst _ _ _=>cases h
  | dct _ _ _=>cases h
 | lst h1 _ _=>
  cases rx
  cases hy with
  | w6=>
   cases h
   cases ry
   refine j7 (I.list h1) fun its _ p _=>?_
   exact ⟨SeqAt.EqAt.list_none p.isList hu',SeqAt.RcAt.list_none p.isList hu',SeqAt.RcNeAt.list_none p.isList hu'⟩
  | bl _=>cases h
  | int _=>cases h
  | str _=>cases h
  | ty _=>cases h
  | tup _ _ _=>cases h
  | lst _ _ _=>cases h
  | dct _ _ _=>cases h
 | dct _ _ _=>cases hy <;> cases h
theorem a0k {d e:D}{b:Bool}(h:eqF d e=some b){x:V}(hx:Rep X.K H x d)(hy:Rep X.K H x e):b=true:=by
 cases hx <;> cases hy <;> first | (exfalso; cases h; done) | skip
 all_goals first | (cases h; rfl) | (cases h; simp)
theorem b5Q {g:Nat→Bool}{n:Nat}(h:∀ j,j < n→g j=true):(List.range n).all g=true:=by
 rw [List.all_eq_true]
 intro j hj
 exact h j (List.mem_range.mp hj)
theorem a7H {f:D→D→Option Bool}{ds es:List D}{b:Bool}{xs:List V}(h:eqL f ds es=some b)(l1:xs.length=ds.length)(l2:xs.length=es.length)(r1:∀ (j:Nat) x d,xs[j]?=some x→ds[j]?=some d→Rep X.K H x d)(r2:∀ (j:Nat) x d,xs[j]?=some x→es[j]?=some d→Rep X.K H x d)
  (hf:∀ d e k x,f d e=some k→Rep X.K H x d→Rep X.K H x e→k=true):b=true:=by
 refine c6 (a62 h (by omega)) fun g hg hb=>?_
 rw [hb]
 refine b5Q fun j hj=>?_
 have hj2:j < es.length:=by omega
 have hj3:j < xs.length:=by omega
 exact hf ds[j] es[j] _ xs[j] (hg j _ _ (by simp [hj]) (by simp [hj2])) (r1 j _ _ (by simp [hj3]) (by simp [hj])) (r2 j _ _ (by simp [hj3]) (by simp [hj2]))
theorem a6X (I:Inv X pins σ H s):∀ (n:Nat) {d e:D} {b:Bool} {x:V},eqD n d e=some b→Rep X.K H x d→Rep X.K H x e→b=true:=by
 intro n
 induction n with
 | zero=>
  intro d e b x h hx hy
  exact a0k (by cases d <;> exact h) hx hy
 | succ n ih=>
  intro d e b x h hx hy
  cases hx with
  | tup h1 l1 r1=>
   cases hy with
   | tup h2 l2 r2=>
    have e:=I.a2R h1 h2
    subst e
    exact a7H (X:=X) (H:=H) (show eqL (eqD n) _ _=some b from h) l1 l2 r1 r2 fun d e k x a b c=>ih a b c
   | lst h2 l2 r2=>cases h
   | dct h2 l2 r2=>cases h
  | lst h1 l1 r1=>
   cases hy with
   | lst h2 l2 r2=>
    have e:=I.a1W h1 h2
    subst e
    exact a7H (X:=X) (H:=H) (show eqL (eqD n) _ _=some b from h) l1 l2 r1 r2 fun d e k x a b c=>ih a b c
   | tup h2 l2 r2=>cases h
   | dct h2 l2 r2=>cases h
  | w6=>exact a0k (X:=X) (H:=H) (by cases e <;> exact h) .w6 hy
  | bl k=>exact a0k (X:=X) (H:=H) (by cases e <;> exact h) (.bl k) hy
  | int k=>exact a0k (X:=X) (H:=H) (by cases e <;> exact h) (.int k) hy
  | str k=>exact a0k (X:=X) (H:=H) (by cases e <;> exact h) (.str k) hy
  | ty k=>exact a0k (X:=X) (H:=H) (by cases e <;> exact h) (.ty k) hy
  | dct h1 l1 r1=>cases hy <;> cases h
theorem a6o (I:Inv X pins σ H s):∀ (n:Nat) {d e:D} {b:Bool},eqD n d e=some b→∀ {A:Around} {x y:V} {v u:Value},Rep X.K H x d→Rep X.K H y e→RelV x v→RelV y u→A.units + n < cLine→
  SeqAt.EqAt A s v u b∧SeqAt.RcAt A s v u b∧SeqAt.RcNeAt A s v u (!b):=by
 intro n
 induction n with
 | zero=>
  intro d e b h A x y v u hx hy rx ry hu
  exact a9u (by cases d <;> exact h) I hx hy rx ry (by omega)
 | succ n ih=>
  intro d e b h A x y v u hx hy rx ry hu
  have flat:eqF d e=some b→SeqAt.EqAt A s v u b∧SeqAt.RcAt A s v u b∧SeqAt.RcNeAt A s v u (!b):=fun h'=>a9u h' I hx hy rx ry (by omega)
  cases d with
  | tup ds=>
   cases e with
   | tup es=>
    have hsame:=fun (hy':Rep X.K H x (.tup es))=>a6X I (n + 1) h hx hy'
    cases hx with
    | @tup a xs _ h1 l1 r1=>
     cases hy with
     | @tup a2 xs2 _ h2 l2 r2=>
      cases rx
      cases ry
      refine c6 (a51 (show eqL (eqD n) ds es=some b from h)) fun g hg hb=>?_
      have key:=b4r (A:=A) (g:=g) I h1 h2 l1 l2 (by omega) fun j x y v u hx hy rx ry=>by
       have hj1:j < ds.length:=by rw [← l1]; exact (List.getElem?_eq_some_iff.mp hx).1
       have hj2:j < es.length:=by rw [← l2]; exact (List.getElem?_eq_some_iff.mp hy).1
       exact (ih (hg j ds[j] es[j] (by simp [hj1]) (by simp [hj2])) (A:=A.in1) (r1 j x _ hx (by simp [hj1])) (r2 j y _ hy (by simp [hj2])) rx ry (by show A.units + 1 + n < _; omega)).1
      rw [← hb] at key
      refine ⟨?_,key⟩
      by_cases e:a=a2
      ·subst e
       have e2:=hsame (.tup h2 l2 r2)
       subst e2
       exact SeqAt.EqAt.same _
      ·exact SeqAt.EqAt.of_refs e key.1
   | _=>exact flat h
  | lst ds=>
   cases e with
   | lst es=>
    have hsame:=fun (hy':Rep X.K H x (.lst es))=>a6X I (n + 1) h hx hy'
    cases hx with
    | @lst a xs _ h1 l1 r1=>
     cases hy with
     | @lst a2 xs2 _ h2 l2 r2=>
      cases rx
      cases ry
      have key:=b3G (A:=A) I h1 h2 l1 l2 (by omega) (show eqL (eqD n) ds es=some b from h) fun j x y d e k v u hx hy hd he hk rx ry=>
       (ih hk (A:=A.in1) (r1 j x _ hx hd) (r2 j y _ hy he) rx ry (by show A.units + 1 + n < _; omega)).1
      refine ⟨?_,key⟩
      by_cases e:a=a2
      ·subst e
       have e2:=hsame (.lst h2 l2 r2)
       subst e2
       exact SeqAt.EqAt.same _
      ·exact SeqAt.EqAt.of_refs e key.1
   | _=>exact flat h
  | _=>exact flat (by cases e <;> exact h)
end
noncomputable def b11 (d e:D):Option W:=(eqD 8 d e).bind vB
noncomputable def b4Y (d e:D):Option W:=(eqD 8 d e).bind fun b=>vB (!b)
theorem b1c {X:Cx}{K:PySem.W.Frag}(hK:X.K=K)(hu:X.A.units + 8 < cLine):OpR X (compareOp .Eq) (fun x y H Q=>∃ d e b,Rep K H x d∧Rep K H y e∧eqD 8 d e=some b∧Q (.bl b) H):=by
 subst hK
 intro pins s σ H x y v u Q I rx ry h
 refine n6 (h) fun d e b hx hy hb q=>?_
 exact (a6o I 8 hb hx hy rx ry hu).2.1 _ _ _ _ (a4J I q rfl)
theorem b66 {X:Cx}{K:PySem.W.Frag}(hK:X.K=K)(hu:X.A.units + 8 < cLine):OpR X (compareOp .NotEq) (fun x y H Q=>∃ d e b,Rep K H x d∧Rep K H y e∧eqD 8 d e=some b∧Q (.bl (!b)) H):=by
 subst hK
 intro pins s σ H x y v u Q I rx ry h
 refine n6 (h) fun d e b hx hy hb q=>?_
 exact (a6o I 8 hb hx hy rx ry hu).2.2 _ _ _ _ (a4J I q rfl)
section
variable {X:Cx}{B:Bs}{e a b c:Expr}{ma mb mc:M W}{pos:Pos}
theorem a9A:a0R B (fun x y H Q=>∃ d e b,Rep B.K H x d∧Rep B.K H y e∧eqD 8 d e=some b∧Q (.bl b) H) b11:=by
 intro G H σ ρ x y dx dy w Q R hx hy e p
 unfold b11 at e
 cases hb:eqD 8 dx dy with
 | none=>rw [hb] at e; cases e
 | some b=>
  rw [hb] at e
  cases e
  exact ⟨dx,dy,b,hx.rep R.gH,hy.rep R.gH,hb,p _ G H (i6.refl _) R (.bl _)⟩
theorem b31:a0R B (fun x y H Q=>∃ d e b,Rep B.K H x d∧Rep B.K H y e∧eqD 8 d e=some b∧Q (.bl (!b)) H) b4Y:=by
 intro G H σ ρ x y dx dy w Q R hx hy e p
 unfold b4Y at e
 cases hb:eqD 8 dx dy with
 | none=>rw [hb] at e; cases e
 | some b=>
  rw [hb] at e
  cases e
  exact ⟨dx,dy,b,hx.rep R.gH,hy.rep R.gH,hb,p _ G H (i6.refl _) R (.bl _)⟩
theorem b9h (hu:X.A.units + 8 < cLine)(ha:PD X B a ma)(hb:PD X B b mb)(hK:autoParam (X.K=B.K) m6._auto_1):PD X B (.Compare a [.Eq] [b] pos) (g9 b11 ma mb):=a4G (fun ξ=>b1c (X:=rz X ξ) hK hu) a9A ha hb (a1S _)
theorem b9J (hu:X.A.units + 8 < cLine)(ha:PD X B a ma)(hb:PD X B b mb)(hK:autoParam (X.K=B.K) m6._auto_1):PDT X B (.Compare a [.Eq] [b] pos) (x9 (g9 b11 ma mb)):=X5 (fun ξ=>b1c (X:=rz X ξ) hK hu) a9A ha hb (a1S _)
theorem b9i (hu:X.A.units + 8 < cLine)(ha:PD X B a ma)(hb:PD X B b mb)(hK:autoParam (X.K=B.K) m6._auto_1):PDT X B (.Compare a [.NotEq] [b] pos) (x9 (g9 b4Y ma mb)):=X5 (fun ξ=>b66 (X:=rz X ξ) hK hu) b31 ha hb (a1S _)
end
end L3
set_option Elab.async false
set_option linter.all false
set_option maxRecDepth 100000
set_option maxHeartbeats 4000000
namespace L3
open PySem PySem.Spec PyProof.Rows L2
section
variable {X:Cx}{pins:List (Addr×Obj)}{σ:St}{H:Hp}{s:Shared}
theorem P6 {a:Addr}{T T':String}(h:s.TypeIs (.ref a) T)(h':s.TypeIs (.ref a) T'):T=T':=by
 refine c6 (h) fun o e c=>?_
 refine c6 (h') fun o' e' c'=>?_
 rw [e] at e'
 cases e'
 rw [c] at c'
 injection c'
theorem a87 {xs:List V}{ds es:List D}(l1:xs.length=ds.length)(l2:xs.length=es.length)(h:∀ (j:Nat) x d e,xs[j]?=some x→ds[j]?=some d→es[j]?=some e→d=e):ds=es:=by
 refine List.ext_getElem? fun j=>?_
 by_cases hj:j < xs.length
 ·have h1:j < ds.length:=by omega
  have h2:j < es.length:=by omega
  have e1:ds[j]?=some ds[j]:=by simp [h1]
  have e2:es[j]?=some es[j]:=by simp [h2]
  rw [e1,e2,h j xs[j] _ _ (by simp [hj]) e1 e2]
 ·rw [List.getElem?_eq_none (by omega),List.getElem?_eq_none (by omega)]
theorem b2O {a:Addr}{k1 k2:List (Key×V)}(h1:Rd H a (.dK k1))(h2:Rd H a (.dK k2)):k1=k2:=by
 rcases h1 with h1 | ⟨o,h1⟩ <;> rcases h2 with h2 | ⟨o2,h2⟩ <;> rw [h1] at h2 <;> cases h2 <;> rfl
theorem Rep.inj (I:Inv X pins σ H s){x:V}{d:D}(h:Rep X.K H x d):∀ {e:D},Rep X.K H x e→d=e:=by
 induction h with
 | w6=>intro e h2; cases h2; rfl
 | bl b=>intro e h2; cases h2; rfl
 | int b=>intro e h2; cases h2; rfl
 | ty b=>intro e h2; cases h2; rfl
 | str cs=>
  intro e h2
  generalize hx:V.str (tx cs)=x at h2
  cases h2 <;> first | (cases hx; done) | skip
  rename_i cs'
  have q:tx cs=tx cs':=by injection hx
  rw [b1Z.mp q]
 | @tup a xs ds h1 l1 r1 ih=>
  intro e h2
  cases h2 with
  | tup h2 l2 r2=>
   have q:=I.a2R h1 h2
   subst q
   rw [a87 l1 l2 fun j x d e a b c=>ih j x d a b (r2 j x e a c)]
  | lst h2 l2 r2=>
   refine j7 (I.tuple h1) fun _ _ p _=>?_
   refine j7 (I.list h2) fun _ _ p2 _=>?_
   exact absurd (P6 p.typeIs p2.isList.typeIs) (by decide)
  | dct h2 l2 r2=>
   refine j7 (I.tuple h1) fun _ _ p _=>?_
   refine n8 (W2 I.hok h2) fun _ _ Z9=>c6 Z9 fun vs _ dd=>?_
   exact absurd (P6 p.typeIs dd.typeIs) (by decide)
 | @lst a xs ds h1 l1 r1 ih=>
  intro e h2
  cases h2 with
  | lst h2 l2 r2=>
   have q:=I.a1W h1 h2
   subst q
   rw [a87 l1 l2 fun j x d e a b c=>ih j x d a b (r2 j x e a c)]
  | tup h2 l2 r2=>
   refine j7 (I.list h1) fun _ _ p _=>?_
   refine j7 (I.tuple h2) fun _ _ p2 _=>?_
   exact absurd (P6 p.isList.typeIs p2.typeIs) (by decide)
  | dct h2 l2 r2=>
   refine j7 (I.list h1) fun _ _ p _=>?_
   refine n8 (W2 I.hok h2) fun _ _ Z9=>c6 Z9 fun vs _ dd=>?_
   exact absurd (P6 p.isList.typeIs dd.typeIs) (by decide)
 | @dct a kvs ds h1 l1 r1 ih=>
  intro e h2
  cases h2 with
  | @dct _ kvs2 es h2 l2 r2=>
   have ek:=b2O h1 h2
   subst ek
   congr 1
   have z1:kvs.length=ds.length:=by have:=congrArg List.length l1; simpa using this
   have z2:kvs.length=es.length:=by have:=congrArg List.length l2; simpa using this
   refine List.ext_getElem? fun j=>?_
   by_cases hj:j < kvs.length
   ·have h1:j < ds.length:=by omega
    have h2:j < es.length:=by omega
    have e1:ds[j]?=some ds[j]:=by simp [h1]
    have e2:es[j]?=some es[j]:=by simp [h2]
    have k1:(kvs.map (·.1))[j]?=(ds.map (·.1))[j]?:=by rw [l1]
    have k2:(kvs.map (·.1))[j]?=(es.map (·.1))[j]?:=by rw [l2]
    rw [List.getElem?_map,List.getElem?_map,e1,show kvs[j]?=some kvs[j] by simp [hj]] at k1
    rw [List.getElem?_map,List.getElem?_map,e2,show kvs[j]?=some kvs[j] by simp [hj]] at k2
    have q:=ih j kvs[j] ds[j] (by simp [hj]) e1 (r2 j kvs[j] es[j] (by simp [hj]) e2)
    rw [e1,e2]
    congr 1
    refine Prod.ext ?_ q
    simp at k1 k2
    rw [← k1,← k2]
   ·rw [List.getElem?_eq_none (by omega),List.getElem?_eq_none (by omega)]
  | tup h2 l2 r2=>
   refine n8 (W2 I.hok h1) fun _ _ Z9=>c6 Z9 fun vs _ dd=>?_
   refine j7 (I.tuple h2) fun _ _ p2 _=>?_
   exact absurd (P6 dd.typeIs p2.typeIs) (by decide)
  | lst h2 l2 r2=>
   refine n8 (W2 I.hok h1) fun _ _ Z9=>c6 Z9 fun vs _ dd=>?_
   refine j7 (I.list h2) fun _ _ p2 _=>?_
   exact absurd (P6 dd.typeIs p2.isList.typeIs) (by decide)
end
noncomputable def inL (d:D):List D→Option Bool
 | []=>some false
 | y::ys=>match eqD 7 y d,inL d ys with
  | some a,some b=>some (a || b)
  | _,_=>none
open Classical in
noncomputable def N2 (K:PySem.W.Frag) (H:Hp) (d:D) (u:Value):Bool:=decide (∃ y e,RelV y u∧Rep K H y e∧eqD 7 e d=some true)
section
variable {X:Cx}{pins:List (Addr×Obj)}{σ:St}{H:Hp}{s:Shared}
theorem a4I (I:Inv X pins σ H s){y:V}{u:Value}{d e:D}{b:Bool}(r:RelV y u)(h:Rep X.K H y e)(he:eqD 7 e d=some b):N2 X.K H d u=b:=by
 unfold N2
 cases b with
 | true=>exact @decide_eq_true _ (Classical.propDecidable _) ⟨y,e,r,h,he⟩
 | false=>
  refine @decide_eq_false _ (Classical.propDecidable _) ?_
  rintro ⟨y',e',r',h',he'⟩
  have q:=r'.inj r
  subst q
  have q2:=h'.inj I h
  subst q2
  rw [he] at he'
  cases he'
theorem a31 (I:Inv X pins σ H s){d:D}:∀ {ds:List D} {xs:List V} {us:List Value} {b:Bool},inL d ds=some b→t6 X.K H xs ds→Vals xs us→us.any (N2 X.K H d)=b
 | [],[],us,b,h,_,v=>by cases v; cases h; rfl
 | [],_::_,_,_,_,r,_=>by have:=r.len; simp at this
 | _::_,[],_,_,_,r,_=>by have:=r.len; simp at this
 | e::ds,x::xs,us,b,h,r,v=>by
  cases v with
  | cons r1 v=>
   unfold inL at h
   cases h1:eqD 7 e d with
   | none=>rw [h1] at h; cases h
   | some p=>
    cases h2:inL d ds with
    | none=>rw [h1,h2] at h; cases h
    | some q=>
     rw [h1,h2] at h
     cases h
     rw [List.any_cons,a4I I r1 r.head h1,a31 I h2 r.tail v]
theorem a1g (I:Inv X pins σ H s){d:D}{x':V}{w':Value}{A:Around}(hx:Rep X.K H x' d)(rx:RelV x' w')(hu:A.units + 7 < cLine):∀ {ds:List D} {xs:List V} {us:List Value} {b:Bool},inL d ds=some b→t6 X.K H xs ds→Vals xs us→∀ u∈us,SeqAt.EqAt A s u w' (N2 X.K H d u)
 | [],[],us,b,h,_,v=>by cases v; intro u hu; cases hu
 | [],_::_,_,_,_,r,_=>by have:=r.len; simp at this
 | _::_,[],_,_,_,r,_=>by have:=r.len; simp at this
 | e::ds,x::xs,us,b,h,r,v=>by
  cases v with
  | cons r1 v=>
   unfold inL at h
   cases h1:eqD 7 e d with
   | none=>rw [h1] at h; cases h
   | some p=>
    cases h2:inL d ds with
    | none=>rw [h1,h2] at h; cases h
    | some q=>
     intro u hm
     rcases List.mem_cons.mp hm with rfl | hm
     ·rw [a4I I r1 r.head h1]
      exact (a6o I 7 h1 r.head hx r1 rx hu).1
     ·exact a1g I hx rx hu h2 r.tail v u hm
end
theorem b1S {X:Cx}{K:PySem.W.Frag}(hK:X.K=K)(hu:X.A.units + 8 < cLine):OpR X (compareOp .In) (fun x y H Q=>∃ d ds b p xs,Rep K H x d∧y=.ref p∧(L5 K H p xs∨Y8 K H p xs)∧t6 K H xs ds∧inL d ds=some b∧Q (.bl b) H):=by
 subst hK
 intro pins s σ H x y v u Q I rx ry h
 refine a5p (h) fun d ds b p xs hx Z1 hq hr hb q=>?_; subst Z1
 cases ry
 refine Or.elim (hq) (fun hq=>?_) fun hq=>?_
 ·refine j7 (I.list hq) fun its r pl hz=>?_
  refine SeqAt.in_listAt (N2 X.K H d) pl.isList (fun w hw=>a1g I hx rx (by show X.A.units + 1 + 7 < _; omega) hb hr r w (by simpa using hw)) ⟨.bl _,H,I,rfl,?_⟩
  rw [show its.toArray.any (N2 X.K H d)=its.any (N2 X.K H d) by simp,a31 I hb hr r]
  exact q
 ·refine j7 (I.tuple hq) fun its r pl hz=>?_
  refine SeqAt.in_tupleAt (N2 X.K H d) pl (fun w hw=>a1g I hx rx (by show X.A.units + 1 + 7 < _; omega) hb hr r w (by simpa using hw)) ⟨.bl _,H,I,rfl,?_⟩
  rw [show its.toArray.any (N2 X.K H d)=its.any (N2 X.K H d) by simp,a31 I hb hr r]
  exact q
theorem b0e {X:Cx}{K:PySem.W.Frag}(hK:X.K=K)(hu:X.A.units + 8 < cLine):OpR X (compareOp .NotIn) (fun x y H Q=>∃ d ds b p xs,Rep K H x d∧y=.ref p∧(L5 K H p xs∨Y8 K H p xs)∧t6 K H xs ds∧inL d ds=some b∧Q (.bl (!b)) H):=by
 subst hK
 intro pins s σ H x y v u Q I rx ry h
 refine a5p (h) fun d ds b p xs hx Z1 hq hr hb q=>?_; subst Z1
 cases ry
 refine Or.elim (hq) (fun hq=>?_) fun hq=>?_
 ·refine j7 (I.list hq) fun its r pl hz=>?_
  refine SeqAt.notIn_listAt (N2 X.K H d) pl.isList (fun w hw=>a1g I hx rx (by show X.A.units + 1 + 7 < _; omega) hb hr r w (by simpa using hw)) ⟨.bl _,H,I,rfl,?_⟩
  rw [show its.toArray.any (N2 X.K H d)=its.any (N2 X.K H d) by simp,a31 I hb hr r]
  exact q
 ·refine j7 (I.tuple hq) fun its r pl hz=>?_
  refine SeqAt.notIn_tupleAt (N2 X.K H d) pl (fun w hw=>a1g I hx rx (by show X.A.units + 1 + 7 < _; omega) hb hr r w (by simpa using hw)) ⟨.bl _,H,I,rfl,?_⟩
  rw [show its.toArray.any (N2 X.K H d)=its.any (N2 X.K H d) by simp,a31 I hb hr r]
  exact q
noncomputable def keyOf:D→Option Key
 | .int i=>some (.inl i)
 | .str cs=>some (.inr (tx cs))
 | _=>none
noncomputable def J3 (es:List (Key×D))(k:Key):Option D:=(es.find? fun kv=>decide (kv.1=k)).map (·.2)
noncomputable def putD (es:List (Key×D))(k:Key)(d:D):List (Key×D):=if (es.any fun kv=>decide (kv.1=k))=true then es.map fun kv=>if kv.1=k then (kv.1,d) else kv else es++[(k,d)]
section
variable {K:PySem.W.Frag}{G:Hp}
theorem n5.nil:n5 K G [] []:=⟨rfl,fun j p e h=>by simp at h⟩
theorem n5.cons {p:Key×V}{e:Key×D}{kvs:List (Key×V)}{es:List (Key×D)}(hk:p.1=e.1)(h:Rep K G p.2 e.2)(r:n5 K G kvs es):n5 K G (p::kvs) (e::es):=by
 refine ⟨by rw [List.map_cons,List.map_cons,hk,r.keys],fun j x y a b=>?_⟩
 cases j with
 | zero=>simp at a b; subst a b; exact h
 | succ j=>exact r.get j x y (by simpa using a) (by simpa using b)
theorem n5.inv {p:Key×V}{e:Key×D}{kvs:List (Key×V)}{es:List (Key×D)}(r:n5 K G (p::kvs) (e::es)):p.1=e.1∧Rep K G p.2 e.2∧n5 K G kvs es:=by
 have k:=r.keys
 rw [List.map_cons,List.map_cons] at k
 exact ⟨(List.cons.inj k).1,r.get 0 p e rfl rfl,(List.cons.inj k).2,fun j x y a b=>r.get (j + 1) x y (by simpa using a) (by simpa using b)⟩
theorem n5.len {kvs:List (Key×V)}{es:List (Key×D)}(r:n5 K G kvs es):kvs.length=es.length:=by have:=congrArg List.length r.keys; simpa using this
theorem n5.ind {P:List (Key×V)→List (Key×D)→Prop}(h0:P [] [])(h1:∀ p e kvs es,p.1=e.1→Rep K G p.2 e.2→n5 K G kvs es→P kvs es→P (p::kvs) (e::es)):∀ {kvs:List (Key×V)} {es:List (Key×D)},n5 K G kvs es→P kvs es
 | [],[],_=>h0
 | [],_::_,r=>by have:=r.len; simp at this
 | _::_,[],r=>by have:=r.len; simp at this
 | p::kvs,e::es,r=>by
  refine n8 (r.inv) fun a b c=>?_
  exact h1 p e kvs es a b c (n5.ind h0 h1 c)
theorem n5.val {kvs:List (Key×V)}{es:List (Key×D)}(r:n5 K G kvs es)(k:Key):(∀ d,J3 es k=some d→∃ v,a02 kvs k=some v∧Rep K G v d)∧(J3 es k=none→a02 kvs k=none):=by
 refine n5.ind (P:=fun kvs es=>(∀ d,J3 es k=some d→∃ v,a02 kvs k=some v∧Rep K G v d)∧(J3 es k=none→a02 kvs k=none)) ⟨fun d h=>by simp [J3] at h,fun _=>rfl⟩ (fun p e kvs es hk hr _ ih=>?_) r
 by_cases h:p.1=k
 ·have h':e.1=k:=by rw [← hk]; exact h
  refine ⟨fun d q=>⟨p.2,a14 h,?_⟩,fun q=>?_⟩
  ·simp [J3,List.find?_cons,h'] at q
   subst q
   exact hr
  ·simp [J3,List.find?_cons,h'] at q
 ·have h':¬ e.1=k:=by rw [← hk]; exact h
  have e1:J3 (e::es) k=J3 es k:=by simp [J3,List.find?_cons,h']
  rw [e1,a2h h]
  exact ih
theorem n5.append {kvs ks:List (Key×V)}{es fs:List (Key×D)}(r:n5 K G kvs es)(r2:n5 K G ks fs):n5 K G (kvs++ks) (es++fs):=
 n5.ind (P:=fun kvs es=>n5 K G (kvs++ks) (es++fs)) r2 (fun p e kvs es hk hr _ ih=>n5.cons hk hr ih) r
theorem n5.put {kvs:List (Key×V)}{es:List (Key×D)}{v:V}{d:D}(r:n5 K G kvs es)(k:Key)(h:Rep K G v d):n5 K G (putK kvs k v) (putD es k d):=by
 have e1:(kvs.any fun kv=>decide (kv.1=k))=(es.any fun kv=>decide (kv.1=k)):=n5.ind (P:=fun kvs es=>(kvs.any fun kv=>decide (kv.1=k))=(es.any fun kv=>decide (kv.1=k))) rfl (fun p e kvs es hk hr _ ih=>by rw [List.any_cons,List.any_cons,hk,ih]) r
 unfold putK putD
 rw [e1]
 split
 ·exact n5.ind (P:=fun kvs es=>n5 K G (kvs.map fun kv=>if kv.1=k then (kv.1,v) else kv) (es.map fun kv=>if kv.1=k then (kv.1,d) else kv)) .nil (fun p e kvs es hk hr _ ih=>by
   rw [List.map_cons,List.map_cons]
   by_cases hp:p.1=k
   ·rw [if_pos hp,if_pos (by rw [← hk]; exact hp)]
    exact n5.cons hk h ih
   ·rw [if_neg hp,if_neg (by rw [← hk]; exact hp)]
    exact n5.cons hk hr ih) r
 ·exact r.append (n5.cons (p:=(k,v)) (e:=(k,d)) rfl h .nil)
theorem a2g {K:PySem.W.Frag}{G H:Hp}{v:V}{d:D}{k:Key}(h:L0 K G H v d)(e:keyOf d=some k):v=kV k:=by
 cases d <;> first | (cases e; done) | skip
 ·cases e; exact h.int
 ·cases e; exact h.str
theorem t6.atI {xs:List V}{ds:List D}(h:t6 K G xs ds){i:Int}{d:D}(e:L2.atI ds i=some d):∃ x,L2.atI xs i=some x∧Rep K G x d:=by
 unfold L2.atI at e ⊢
 rw [h.len]
 cases hj:ixN ds.length i with
 | none=>rw [hj] at e; cases e
 | some j=>
  rw [hj] at e
  exact h.at e
end
theorem b2E {X:Cx}(hu:X.A.units + 8 < cLine):OpR X (compareOp .In) (fun x y H Q=>∃ a o,y=.ref a∧a0P H a x o∧Q (.bl o.isSome) H):=by
 intro pins s σ H x y v u Q I rx ry h
 refine i9 (h) fun a o Z1 g q=>?_; subst Z1
 cases ry
 exact b9K (by omega) I g rx fun s' I'=>⟨.bl _,H,I',rfl,q⟩
theorem b0v {X:Cx}(hu:X.A.units + 8 < cLine):OpR X (compareOp .NotIn) (fun x y H Q=>∃ a o,y=.ref a∧a0P H a x o∧Q (.bl (!o.isSome)) H):=by
 intro pins s σ H x y v u Q I rx ry h
 refine i9 (h) fun a o Z1 g q=>?_; subst Z1
 cases ry
 exact b4u (by omega) I g rx fun s' I'=>⟨.bl _,H,I',rfl,q⟩
noncomputable def b9x (a b:List Nat):Bool:=!(Builtin.Str.occurrences (tx b) (tx a) 0 (tx b).length 1).isEmpty
noncomputable def b2R:D→D→Option Bool
 | d,.lst ds=>inL d ds
 | d,.tup ds=>inL d ds
 | .str a,.str b=>some (b9x a b)
 | d,.dct es=>(keyOf d).map fun k=>(J3 es k).isSome
 | _,_=>none
noncomputable def inD (d e:D):Option W:=(b2R d e).bind vB
noncomputable def S2 (d e:D):Option W:=(b2R d e).bind fun b=>vB (!b)
section
variable {X:Cx}{B:Bs}{e a b c:Expr}{ma mb mc:M W}{pos:Pos}
theorem b2c {G H:Hp}{σ:St}{ρ:k9}{x y:V}{dx dy:D}{b:Bool}(R:RS B G H σ ρ)(hx:L0 B.K G H x dx)(hy:L0 B.K G H y dy)(e:b2R dx dy=some b):
  (∃ d ds p xs,Rep B.K H x d∧y=.ref p∧(L5 B.K H p xs∨Y8 B.K H p xs)∧t6 B.K H xs ds∧inL d ds=some b)∨(∃ i j,x=.str i∧y=.str j∧b=(!(Builtin.Str.occurrences j i 0 j.length 1).isEmpty))∨(∃ a o,y=.ref a∧a0P H a x o∧b=o.isSome):=by
 cases dy with
 | lst ds=>
  refine i9 (hy.lst R.gH) fun p xs Z1 h1 r1=>?_; subst Z1
  exact .inl ⟨dx,ds,p,xs,hx.rep R.gH,rfl,.inl h1,r1.same R.gH,by cases dx <;> exact e⟩
 | tup ds=>
  refine i9 (hy.tup R.gH) fun p xs Z1 h1 r1=>?_; subst Z1
  exact .inl ⟨dx,ds,p,xs,hx.rep R.gH,rfl,.inr h1,r1.same R.gH,by cases dx <;> exact e⟩
 | dct es=>
  refine i9 (hy.dct R.gH) fun p kvs Z1 h1 r1=>?_; subst Z1
  have e':(keyOf dx).map (fun k=>(J3 es k).isSome)=some b:=by cases dx <;> exact e
  cases hk:keyOf dx with
  | none=>rw [hk] at e'; cases e'
  | some k=>
   rw [hk] at e'
   cases e'
   have hv:=a2g hx hk
   subst hv
   refine .inr (.inr ⟨p,a02 kvs k,rfl,a0P.r h1,?_⟩)
   refine f9 (r1.val k) fun c1 c2=>?_
   show (J3 es k).isSome=_
   cases hd:J3 es k with
   | none=>rw [c2 hd]; rfl
   | some d=>
    refine c6 (c1 d hd) fun v q _=>?_
    rw [q]
    rfl
 | str cs=>
  cases dx <;> first | (cases e; done) | skip
  cases e
  exact .inr (.inl ⟨_,_,hx.str,hy.str,rfl⟩)
 | _=>cases dx <;> cases e
theorem a9i:a0R B (fun x y H Q=>(∃ d ds b p xs,Rep B.K H x d∧y=.ref p∧(L5 B.K H p xs∨Y8 B.K H p xs)∧t6 B.K H xs ds∧inL d ds=some b∧Q (.bl b) H)∨(∃ i j,x=.str i∧y=.str j∧Q (.bl (!(Builtin.Str.occurrences j i 0 j.length 1).isEmpty)) H)∨(∃ a o,y=.ref a∧a0P H a x o∧Q (.bl o.isSome) H)) inD:=by
 intro G H σ ρ x y dx dy w Q R hx hy e p
 unfold inD at e
 cases hb:b2R dx dy with
 | none=>rw [hb] at e; cases e
 | some b=>
  rw [hb] at e
  cases e
  have fin:Q (.bl b) H:=p _ G H (i6.refl _) R (.bl _)
  rcases b2c R hx hy hb with ⟨d,ds,pp,xs,h1,h2,h3,h4,h5⟩ | ⟨i,j,h1,h2,h3⟩ | ⟨a,o,h1,h2,h3⟩
  ·exact .inl ⟨d,ds,b,pp,xs,h1,h2,h3,h4,h5,fin⟩
  ·exact .inr (.inl ⟨i,j,h1,h2,by rw [← h3]; exact fin⟩)
  ·exact .inr (.inr ⟨a,o,h1,h2,by rw [← h3]; exact fin⟩)
theorem a8v:a0R B (fun x y H Q=>(∃ d ds b p xs,Rep B.K H x d∧y=.ref p∧(L5 B.K H p xs∨Y8 B.K H p xs)∧t6 B.K H xs ds∧inL d ds=some b∧Q (.bl (!b)) H)∨(∃ i j,x=.str i∧y=.str j∧Q (.bl (!(!(Builtin.Str.occurrences j i 0 j.length 1).isEmpty))) H)∨(∃ a o,y=.ref a∧a0P H a x o∧Q (.bl (!o.isSome)) H)) S2:=by
 intro G H σ ρ x y dx dy w Q R hx hy e p
 unfold S2 at e
 cases hb:b2R dx dy with
 | none=>rw [hb] at e; cases e
 | some b=>
  rw [hb] at e
  cases e
  have fin:Q (.bl (!b)) H:=p _ G H (i6.refl _) R (.bl _)
  rcases b2c R hx hy hb with ⟨d,ds,pp,xs,h1,h2,h3,h4,h5⟩ | ⟨i,j,h1,h2,h3⟩ | ⟨a,o,h1,h2,h3⟩
  ·exact .inl ⟨d,ds,b,pp,xs,h1,h2,h3,h4,h5,fin⟩
  ·exact .inr (.inl ⟨i,j,h1,h2,by rw [← h3]; exact fin⟩)
  ·exact .inr (.inr ⟨a,o,h1,h2,by rw [← h3]; exact fin⟩)
theorem b7H (hu:X.A.units + 8 < cLine)(ha:PD X B a ma)(hb:PD X B b mb)(hm:autoParam (behindInMarks .In b=false) au5._auto_1)(hK:autoParam (X.K=B.K) m6._auto_1):PD X B (.Compare a [.In] [b] pos) (g9 inD ma mb):=a4G (fun ξ=>(b1S (X:=rz X ξ) hK hu).or (a5S.or (b2E hu))) a9i ha hb hm
theorem b20 (hu:X.A.units + 8 < cLine)(ha:PD X B a ma)(hb:PD X B b mb)(hm:autoParam (behindInMarks .In b=false) au5._auto_1)(hK:autoParam (X.K=B.K) m6._auto_1):PDT X B (.Compare a [.In] [b] pos) (x9 (g9 inD ma mb)):=X5 (fun ξ=>(b1S (X:=rz X ξ) hK hu).or (a5S.or (b2E hu))) a9i ha hb hm
theorem a6E (hu:X.A.units + 8 < cLine)(ha:PD X B a ma)(hb:PD X B b mb)(hm:autoParam (behindInMarks .NotIn b=false) au5._auto_1)(hK:autoParam (X.K=B.K) m6._auto_1):PDT X B (.Compare a [.NotIn] [b] pos) (x9 (g9 S2 ma mb)):=X5 (fun ξ=>(b0e (X:=rz X ξ) hK hu).or (a6D.or (b0v hu))) a8v ha hb hm
end
noncomputable def X7:D→Bool
 | .w6=>true
 | _=>false
section
variable {X:Cx}{B:Bs}{e a b c:Expr}{ma mb mc:M W}{pos:Pos}
theorem a9S {K:PySem.W.Frag}{G H:Hp}{v:V}{d:D}(h:L0 K G H v d):decide (v=.w6)=X7 d:=by
 cases d with
 | w6=>rw [h.w6]; rfl
 | _=>
  refine decide_eq_false ?_
  rintro rfl
  refine Or.elim (h) (fun h=>?_) fun Z1=>c6 (Z1) fun p e _=>?_
  ·cases h
  ·cases e
theorem b1h:b1g B (fun x H Q=>Q (.bl (decide (x=.w6))) H) (fun d=>vB (X7 d)):=by
 intro G H σ ρ x dx w Q R hx e p
 cases e
 rw [a9S hx]
 exact p _ G H (i6.refl _) R (.bl _)
theorem b0b:b1g B (fun x H Q=>Q (.bl (!decide (x=.w6))) H) (fun d=>vB (!X7 d)):=by
 intro G H σ ρ x dx w Q R hx e p
 cases e
 rw [a9S hx]
 exact p _ G H (i6.refl _) R (.bl _)
theorem b7V {j pos'}(ha:PD X B a ma):PDT X B (.Compare a [.Is] [.Constant .none j pos'] pos) (x9 (mUn (fun d=>vB (X7 d)) ma)):=.mk fun ξ=>(b1k (b5P (ha.ap ξ))).imp fun _ _ _ t=>a8N b1h (a8H t)
theorem b5U {j pos'}(ha:PD X B a ma):PDT X B (.Compare a [.IsNot] [.Constant .none j pos'] pos) (x9 (mUn (fun d=>vB (!X7 d)) ma)):=.mk fun ξ=>(b1k (b3I (ha.ap ξ))).imp fun _ _ _ t=>a8N b0b (a8H t)
end
noncomputable def b3z:D→Option Bool
 | .w6=>some false
 | .bl b=>some b
 | .int i=>some (i != 0)
 | .str cs=>grd (small cs.length) (some ((cs.length:Int) != 0))
 | .lst ds=>some (!ds.isEmpty)
 | .tup ds=>some (!ds.isEmpty)
 | _=>none
noncomputable def a01 (m:M W):M Bool:=M.bind m fun w=>fun ρ=>match getD w ρ with
 | some d=>(b3z d).map (R'.ok · ρ)
 | none=>none
noncomputable def a46 (a b:M Bool):M Bool:=M.bind a fun k=>if k=true then b else M.pure false
noncomputable def mOr (a b:M Bool):M Bool:=M.bind a fun k=>if k=true then M.pure true else b
noncomputable def b3q (a:M Bool):M Bool:=M.bind a fun k=>M.pure (!k)
noncomputable def mBl (w:W):M Bool:=fun ρ=>match getD w ρ with
 | some (.bl b)=>some (.ok b ρ)
 | _=>none
noncomputable def a5q (a b:M W):M W:=M.bind a fun w=>M.bind (mBl w) fun k=>if k=true then b else mC (.bl false)
theorem a3d {α β:Type}{xs:List α}{ys:List β}(h:xs.length=ys.length):xs.isEmpty=ys.isEmpty:=by
 cases xs <;> cases ys <;> simp_all
section
variable {X:Cx}{B:Bs}{e a b c:Expr}{ma mb mc:M W}{pos:Pos}{rest:List Expr}
theorem b4R {G H:Hp}{σ:St}{ρ:k9}{x:V}{d:D}{k:Bool}(R:RS B G H σ ρ)(h:L0 B.K G H x d)(e:b3z d=some k):b4x B.K x H k:=by
 cases d with
 | w6=>cases e; rw [h.w6]; rfl
 | bl b=>cases e; rw [h.bl]; rfl
 | int i=>cases e; rw [h.int]; rfl
 | str cs=>
  refine f9 (z7 e) fun z e=>?_
  cases e
  rw [h.str]
  exact ⟨by rw [a4w]; exact U4 z,by rw [a4w]⟩
 | lst ds=>
  cases e
  refine i9 (h.lst R.gH) fun p xs Z1 h1 r1=>?_; subst Z1
  exact .inl ⟨xs,h1,by rw [a3d r1.len]⟩
 | tup ds=>
  cases e
  refine i9 (h.tup R.gH) fun p xs Z1 h1 r1=>?_; subst Z1
  exact .inr (.inl ⟨xs,h1,by rw [a3d r1.len]⟩)
 | dct es=>cases e
 | ty n=>cases e
theorem a3f (ha:PD X B a ma)(he:autoParam (∀ whole,isTrue a X.env whole=(do let v ← whole; standAt a.pos; holding [v] (truthy v))) au6._auto_1)(hK:autoParam (X.K=B.K) m6._auto_1):PDT X B a (a01 ma):=.mk fun ξ=>
 (b29 (X:=rz X ξ) (ha.ap ξ) he).imp fun σ H Q t=>by
  refine l6 (t) fun G ρ R t=>?_
  refine (TD.bind (rel:=C1) R t).mono fun x H1 Z0=>n6 (Z0) fun G1 ρ1 w s1 R1 q1 Z9=>c6 Z9 fun r e p=>?_
  cases hd:getD w ρ1 with
  | none=>simp only [hd] at e; cases e
  | some d=>
   simp only [hd] at e
   cases hk:b3z d with
   | none=>rw [hk] at e; cases e
   | some k=>
    rw [hk] at e
    cases e
    refine ⟨k,?_,p k G1 H1 (i6.refl _) R1 rfl⟩
    show b4x X.K x H1 k
    rw [hK]
    exact b4R R1 (q1.get R1 hd) hk
theorem b64 {ξ:XP}{m1 m2:M Bool}{σ:St}{H:Hp}{Q:Bool→Hp→Prop}(t:TD a0L B ξ (a46 m1 m2) σ H Q):b8d (TD a0L B ξ m1) (TD a0L B ξ m2) σ H Q:=by
 refine l6 (t) fun G ρ R t=>?_
 refine (TD.bind (rel:=a0L) R t).mono fun k H1 Z0=>n6 (Z0) fun G1 ρ1 k' s1 R1 q1 t2=>?_
 cases (show k=k' from q1)
 cases k with
 | true=>exact ⟨G1,ρ1,R1,t2⟩
 | false=>
  refine c6 (t2) fun r e p=>?_
  cases e
  exact p false G1 H1 (i6.refl _) R1 rfl
theorem b8f {ξ:XP}{m1 m2:M Bool}{σ:St}{H:Hp}{Q:Bool→Hp→Prop}(t:TD a0L B ξ (mOr m1 m2) σ H Q):tOr (TD a0L B ξ m1) (TD a0L B ξ m2) σ H Q:=by
 refine l6 (t) fun G ρ R t=>?_
 refine (TD.bind (rel:=a0L) R t).mono fun k H1 Z0=>n6 (Z0) fun G1 ρ1 k' s1 R1 q1 t2=>?_
 cases (show k=k' from q1)
 cases k with
 | false=>exact ⟨G1,ρ1,R1,t2⟩
 | true=>
  refine c6 (t2) fun r e p=>?_
  cases e
  exact p true G1 H1 (i6.refl _) R1 rfl
theorem a8r {m1:M Bool}(ha:PDT X B a m1):PDW X B (.BoolOp .And [a] pos) m1:=.mk fun ξ=>b3X (ha.ap ξ)
theorem b2a {m1:M Bool}(ha:PDT X B a m1):PDW X B (.BoolOp .Or [a] pos) m1:=.mk fun ξ=>b6F (ha.ap ξ)
theorem w_and {m1 m2:M Bool}(ha:PDT X B a m1)(hb:PDW X B (.BoolOp .And (b::rest) pos) m2):PDW X B (.BoolOp .And (a::b::rest) pos) (a46 m1 m2):=.mk fun ξ=>(b6o (ha.ap ξ) (hb.ap ξ)).imp fun _ _ _ t=>b64 t
theorem w_or {m1 m2:M Bool}(ha:PDT X B a m1)(hb:PDW X B (.BoolOp .Or (b::rest) pos) m2):PDW X B (.BoolOp .Or (a::b::rest) pos) (mOr m1 m2):=.mk fun ξ=>(b7k (ha.ap ξ) (hb.ap ξ)).imp fun _ _ _ t=>b8f t
theorem b5g {m1:M Bool}(ha:PDT X B a m1):PDT X B (.UnaryOp .Not a pos) (b3q m1):=.mk fun ξ=>(b5T (ha.ap ξ)).imp fun σ H Q t=>by
 refine l6 (t) fun G ρ R t=>?_
 refine (TD.bind (rel:=a0L) R t).mono fun k H1 Z0=>n6 (Z0) fun G1 ρ1 k' s1 R1 q1 Z9=>c6 Z9 fun r e p=>?_
 cases (show k=k' from q1)
 cases e
 exact p (!k) G1 H1 (i6.refl _) R1 rfl
theorem b4P {ξ:XP}{α β:Type}{rel':Rel α β}{w:W}{f:Bool→M α}{G H:Hp}{ρ:k9}{σ:St}{Q:β→Hp→Prop}{x:V}(R:RS B G H σ ρ)(q:D4 B G H σ ρ x w)(t:a0j rel' B ξ G ρ (M.bind (mBl w) f) σ Q):∃ k,x=.bl k∧a0j rel' B ξ G ρ (f k) σ Q:=by
 obtain ⟨k,ρ',e,t⟩:=t.step fun r h=>by
  unfold mBl at h
  split at h
  ·cases h; exact ⟨_,_,rfl⟩
  ·cases h
 unfold mBl at e
 split at e
 ·rename_i b hd
  cases e
  exact ⟨k,(q.get R hd).bl,t⟩
 ·cases e
theorem b3R {ξ:XP}{σ:St}{H:Hp}{Q:VK}(t:TD C1 B ξ (a5q ma mb) σ H Q):b5e (TD C1 B ξ ma) (TD C1 B ξ mb) σ H Q:=by
 refine l6 (t) fun G ρ R t=>?_
 refine (TD.bind (rel:=C1) R t).mono fun x H1 Z0=>n6 (Z0) fun G1 ρ1 w s1 R1 q1 t2=>?_
 refine c6 (b4P R1 q1 t2) fun k Z1 t3=>?_; subst Z1
 refine ⟨k,rfl,?_⟩
 cases k with
 | true=>exact ⟨G1,ρ1,R1,t3⟩
 | false=>
  refine c6 (t3) fun r e p=>?_
  cases e
  exact p _ G1 H1 (i6.refl _) R1 (.bl _)
theorem b8g {op}(ha:PD X B a ma):PD X B (.BoolOp op [a] pos) ma:=.mk fun ξ=>b6U (ha.ap ξ)
theorem b7z (ha:PD X B a ma)(hb:PD X B (.BoolOp .And (b::rest) pos) mb):PD X B (.BoolOp .And (a::b::rest) pos) (a5q ma mb):=.mk fun ξ=>(b5O (ha.ap ξ) (hb.ap ξ)).imp fun _ _ _ t=>b3R t
end
end L3
set_option Elab.async false
set_option linter.all false
set_option maxRecDepth 100000
set_option maxHeartbeats 4000000
namespace L3
open PySem PySem.Spec PyProof.Rows L2
theorem b3P {X:Cx}(hu:X.A.units + 8 < cLine):IxR X (fun x y H Q=>∃ a v,x=.ref a∧a0P H a y (some v)∧Q v H):=by
 intro value slice pins s σ H x y v u Q I rx ry h hs
 refine i9 (h) fun a z Z1 g q=>?_; subst Z1
 cases rx
 exact tail_any (a65 I g) PySem.F.slot_dict_getitem.lookup (b01 (by omega) I g ry fun w' s' I' r'=>⟨z,H,I',r',q⟩) hs
noncomputable def B0:D→D→Option W
 | .lst ds,.int i=>(atI ds i).map W.val
 | .tup ds,.int i=>(atI ds i).map W.val
 | .str cs,.int i=>grd (small cs.length) ((atI cs i).map fun c=>W.val (.str [c]))
 | .dct es,k=>(keyOf k).bind fun k=>(J3 es k).map W.val
 | _,_=>none
section
variable {X:Cx}{B:Bs}{e a b c:Expr}{ma mb mc:M W}{pos:Pos}
theorem b3E:a0R B (fun x y H Q=>b6X B.K x y H Q∨b5z B.K x y H Q∨b8r x y H Q∨∃ a v,x=.ref a∧a0P H a y (some v)∧Q v H) B0:=by
 intro G H σ ρ x y dx dy w Q R hx hy e p
 cases dx with
 | lst ds=>
  cases dy <;> first | (cases e; done) | skip
  refine c6 (Option.map_eq_some_iff.mp e) fun d e1 Z1=>?_; subst Z1
  refine i9 (hx.lst R.gH) fun q xs Z1 h1 r1=>?_; subst Z1
  refine c6 (r1.atI e1) fun v e2 r2=>?_
  exact .inl ⟨q,xs,_,v,rfl,hy.int,h1,e2,p v G H (i6.refl _) R r2⟩
 | tup ds=>
  cases dy <;> first | (cases e; done) | skip
  refine c6 (Option.map_eq_some_iff.mp e) fun d e1 Z1=>?_; subst Z1
  refine i9 (hx.tup R.gH) fun q xs Z1 h1 r1=>?_; subst Z1
  refine c6 (r1.atI e1) fun v e2 r2=>?_
  exact .inr (.inl ⟨q,xs,_,v,rfl,hy.int,h1,e2,p v G H (i6.refl _) R r2⟩)
 | str cs=>
  cases dy <;> first | (cases e; done) | skip
  refine f9 (z7 e) fun z e=>?_
  refine c6 (Option.map_eq_some_iff.mp e) fun c e1 Z1=>?_; subst Z1
  refine .inr (.inr (.inl ⟨tx cs,_,c,hx.str,hy.int,by rw [a4w]; exact U4 z,by simpa using e1,p _ G H (i6.refl _) R (.str [c])⟩))
 | dct es=>
  have e':(keyOf dy).bind (fun k=>(J3 es k).map W.val)=some w:=by cases dy <;> exact e
  cases hk:keyOf dy with
  | none=>rw [hk] at e'; cases e'
  | some k=>
   rw [hk] at e'
   refine c6 (Option.map_eq_some_iff.mp e') fun d e1 Z1=>?_; subst Z1
   refine i9 (hx.dct R.gH) fun q kvs Z1 h1 r1=>?_; subst Z1
   have hv:=a2g hy hk
   subst hv
   refine c6 ((r1.val k).1 d e1) fun v e2 r2=>?_
   refine .inr (.inr (.inr ⟨q,v,rfl,?_,p v G H (i6.refl _) R r2⟩))
   rw [← e2]
   exact a0P.r h1
 | _=>cases dy <;> cases e
theorem C6 (hu:X.A.units + 8 < cLine)(ha:PD X B a ma)(hb:PD X B b mb)(hs:autoParam (a9C b) au7._auto_1)(hK:autoParam (X.K=B.K) m6._auto_1):PD X B (.Subscript a b pos) (g9 B0 ma mb):=.mk fun ξ=>
 (b70 (X:=rz X ξ) ((b1U (X:=rz X ξ) (K:=B.K) hK).or ((b33 (X:=rz X ξ) (K:=B.K) hK).or (b6q.or (b3P hu)))) (ha.ap ξ) (hb.ap ξ) hs).imp fun _ _ _ t=>a6v b3E t
end
noncomputable def b6u:Rel (Option Int) (Option Int):=fun _ _ _ _ _ v b=>v=b
structure PDO (X:Cx) (B:Bs) (e:Option Expr) (m:M (Option Int)):Prop where
 ap:∀ ξ,PO (rz X ξ) e (TD b6u B ξ m)
noncomputable def a7F (m:M W):M (Option Int):=M.bind m fun w=>fun ρ=>match getD w ρ with
 | some (.int i)=>some (.ok (some i) ρ)
 | _=>none
noncomputable def cutD (ds:List D)(lo hi:Option Int):List D:=(ds.drop (HT.sIx ds.length 0 lo)).take (HT.sIx ds.length ds.length hi - HT.sIx ds.length 0 lo)
noncomputable def slD:D→Option Int→Option Int→Option W
 | .lst ds,lo,hi=>some (.own (.lst (cutD ds lo hi)))
 | _,_,_=>none
noncomputable def mSl (ma:M W)(ml mh:M (Option Int)):M W:=M.bind (O3 ma) fun x=>M.bind ml fun lo=>M.bind mh fun hi=>op1 (fun d=>slD d lo hi) x
theorem b2G {X:Cx}{K:PySem.W.Frag}(hK:X.K=K):SlR X (b8q K):=by subst hK; exact b4N
section
variable {X:Cx}{B:Bs}{e a b c:Expr}{ma mb mc:M W}{pos p2:Pos}{lo hi:Option Expr}
theorem b6D:PDO X B none (M.pure none):=.mk fun ξ pins s σ H Q I h=>b4n pins s σ H Q I (by
 refine l6 (h) fun G ρ R Z9=>c6 Z9 fun r e p=>?_
 cases e
 exact p none G H (i6.refl _) R rfl)
theorem b6v (h:PD X B e ma):PDO X B (some e) (a7F ma):=.mk fun ξ pins s σ H Q I t=>b4d (h.ap ξ) pins s σ H Q I (by
 refine l6 (t) fun G ρ R t=>?_
 refine (TD.bind (rel:=C1) R t).mono fun x H1 Z0=>n6 (Z0) fun G1 ρ1 w s1 R1 q1 Z9=>c6 Z9 fun r e p=>?_
 dsimp only at e
 split at e
 ·rename_i i hd
  cases e
  exact ⟨i,(q1.get R1 hd).int,p (some i) G1 H1 (i6.refl _) R1 rfl⟩
 ·cases e)
theorem b9F {ml mh:M (Option Int)}(ha:PD X B a ma)(hl:PDO X B lo ml)(hh:PDO X B hi mh)(hK:autoParam (X.K=B.K) m6._auto_1):PD X B (.Subscript a (.Slice lo hi none p2) pos) (mSl ma ml mh):=.mk fun ξ=>
 (b2M (X:=rz X ξ) (b2G (X:=rz X ξ) (K:=B.K) hK) (ha.ap ξ) (hl.ap ξ) (hh.ap ξ)).imp fun σ H Q t=>by
  refine l6 (t) fun G ρ R t=>?_
  have t1:TD a3I B ξ (O3 ma) σ H _:=TD.bind (rel:=a3I) R t
  refine TD.O3 (t1.mono fun x H1 Z9=>n6 Z9 fun G1 ρ1 wa s1 R1 Z9 t2=>f9 Z9 fun q1 st1=>?_)
  refine (TD.bind (rel:=b6u) R1 t2).mono fun l H2 Z0=>n6 (Z0) fun G2 ρ2 l' s2 R2 q2 t3=>?_
  cases (show l=l' from q2)
  refine (TD.bind (rel:=b6u) R2 t3).mono fun u H3 Z0=>n6 (Z0) fun G3 ρ3 u' s3 R3 q3 t4=>?_
  cases (show u=u' from q3)
  refine i9 (a9e t4) fun dx w e1 e2 p=>?_
  have hx:=(q1.keep (s2.trans s3) st1:D4 B G3 H3 σ ρ3 x wa).get R3 e1
  cases dx with
  | lst ds=>
   cases e2
   refine i9 (hx.lst R3.gH) fun q xs Z1 h1 r1=>?_; subst Z1
   refine ⟨q,xs,rfl,h1,fun pp hp=>?_⟩
   have r2:t6 B.K G3 (b05 xs l u) (cutD ds l u):=by
    unfold b05 cutD
    rw [r1.len]
    exact (r1.drop _).take _
   refine f9 (R3.a1Q hp r2) fun R' w'=>?_
   exact p _ G3 _ (i6.refl _) R' w'
  | _=>cases e2
end
noncomputable def j5:M (List W):=M.pure []
noncomputable def c9 (m:M W)(r:M (List W)):M (List W):=M.bind (O3 m) fun x=>M.bind r fun xs=>M.pure (x::xs)
section
variable {X:Cx}{B:Bs}{e a b c:Expr}{es:List Expr}{ma mb mc:M W}{mr:M (List W)}{pos p2:Pos}
theorem j6:PDA X B [] j5:=.mk fun ξ=>(b65 (X:=rz X ξ)).imp fun σ H Q t=>by
 refine l6 (t) fun G ρ R Z9=>c6 Z9 fun r e p=>?_
 cases e
 exact p [] G H (i6.refl _) R .nil
theorem a4H {G G' H H':Hp}{σ:St}{ρ ρ':k9}(s:i6 G G'):∀ {vs:List V} {ws:List W},K7 B G H σ ρ vs ws→K7 B G' H' σ ρ' vs ws
 | _,_,.nil=>.nil
 | _,_,.cons ⟨h,st⟩ t=>.cons ⟨h.keep s st,st⟩ (a4H s t)
theorem f7 (ha:PD X B e ma)(hr:PDA X B es mr)(hs:autoParam (starEach (e::es) X.env=(false,eval e X.env)::starEach es X.env) m6._auto_1):PDA X B (e::es) (c9 ma mr):=.mk fun ξ=>
 (b4g (X:=rz X ξ) (ha.ap ξ) (hr.ap ξ) hs).imp fun σ H Q t=>by
  refine l6 (t) fun G ρ R t=>?_
  have t1:TD a3I B ξ (O3 ma) σ H _:=TD.bind (rel:=a3I) R t
  refine TD.O3 (t1.mono fun x H1 Z9=>n6 Z9 fun G1 ρ1 wa s1 R1 Z9 t2=>f9 Z9 fun q1 st1=>?_)
  refine (TD.bind (rel:=K7) R1 t2).mono fun xs H2 Z0=>n6 (Z0) fun G2 ρ2 ws s2 R2 q2 Z9=>c6 Z9 fun r er p=>?_
  cases er
  exact p (x::xs) G2 H2 (i6.refl _) R2 (.cons ⟨q1.keep s2 st1,st1⟩ q2)
end
noncomputable def U9:List W→M (List D)
 | []=>M.pure []
 | w::ws=>M.bind (D3 w) fun d=>M.bind (U9 ws) fun ds=>M.pure (d::ds)
noncomputable def Q8 (m:M (List W)):M W:=M.bind m fun ws=>M.bind (U9 ws) fun ds ρ=>grd (small ds.length) (some (.ok (.val (.tup ds)) ρ))
noncomputable def a0N (m:M (List W)):M W:=M.bind m fun ws=>M.bind (U9 ws) fun ds ρ=>grd (small ds.length) (some (.ok (.own (.lst ds)) ρ))
section
variable {X:Cx}{B:Bs}{e a b c:Expr}{es:List Expr}{ma mb mc:M W}{mr:M (List W)}{pos p2:Pos}
theorem a0a:∀ {ws:List W} {ρ:k9} {r:R' (List D)},U9 ws ρ=some r→∃ ds ρ',r=.ok ds ρ'
 | [],_,_,h=>by cases h; exact ⟨_,_,rfl⟩
 | w::ws,ρ,r,h=>by
  unfold U9 at h
  cases h1:D3 w ρ with
  | none=>rw [M.bind_none h1] at h; cases h
  | some r1=>
   refine A6 (W3 h1) fun d ρ1 Z1=>?_; subst Z1
   rw [M.j8 h1] at h
   cases h2:U9 ws ρ1 with
   | none=>rw [M.bind_none h2] at h; cases h
   | some r2=>
    refine A6 (a0a h2) fun ds ρ2 Z1=>?_; subst Z1
    rw [M.j8 h2] at h
    cases h
    exact ⟨_,_,rfl⟩
theorem a0f:∀ {ws:List W} {vs:List V} {G H:Hp} {σ:St} {ρ ρ':k9} {ds:List D},RS B G H σ ρ→K7 B G H σ ρ vs ws→U9 ws ρ=some (.ok ds ρ')→∃ G',i6 G G'∧RS B G' H σ ρ'∧t6 B.K G' vs ds
 | [],_,G,H,σ,ρ,ρ',ds,R,q,e=>by
  cases q
  cases e
  exact ⟨G,i6.refl _,R,.nil⟩
 | w::ws,_,G,H,σ,ρ,ρ',ds,R,q,e=>by
  cases q with
  | @cons v _ vs _ h1 t=>
   unfold U9 at e
   cases hl:D3 w ρ with
   | none=>rw [M.bind_none hl] at e; cases e
   | some r1=>
    refine A6 (W3 hl) fun d ρ1 Z1=>?_; subst Z1
    rw [M.j8 hl] at e
    cases hl2:U9 ws ρ1 with
    | none=>rw [M.bind_none hl2] at e; cases e
    | some r2=>
     refine A6 (a0a hl2) fun ds2 ρ2 Z1=>?_; subst Z1
     rw [M.j8 hl2] at e
     cases e
     refine j7 (h1.1.D3 R hl) fun G1 s1 R1 rp=>?_
     refine j7 (a0f (ρ:=ρ1) R1 (a4H s1 t) hl2) fun G2 s2 R2 rl=>?_
     exact ⟨G2,s1.trans s2,R2,.cons (rp.same s2) rl⟩
theorem O9 {x1}(h:PDA X B es mr):PD X B (.Tuple es x1 pos) (Q8 mr):=.mk fun ξ=>(b5Z (h.ap ξ)).imp fun σ H Q t=>by
 refine l6 (t) fun G ρ R t=>?_
 refine (TD.bind (rel:=K7) R t).mono fun vs H1 Z0=>n6 (Z0) fun G1 ρ1 ws s1 R1 q1 t2=>?_
 obtain ⟨ds,ρ2,e2,r,er,p⟩:=t2.step fun r h=>a0a h
 refine f9 (z7 er) fun hz er=>?_
 cases er
 refine j7 (a0f R1 q1 e2) fun G2 s2 R2 rl=>?_
 refine ⟨by rw [rl.len]; exact U4 hz,fun pp hp=>?_⟩
 refine j7 (R2.a8Q hp rl) fun G3 s3 R3 r3=>?_
 exact p _ G3 _ (s2.trans s3) R3 r3
theorem a1q (h:PDA X B es mr):PD X B (.List es pos) (a0N mr):=.mk fun ξ=>(b51 (h.ap ξ)).imp fun σ H Q t=>by
 refine l6 (t) fun G ρ R t=>?_
 refine (TD.bind (rel:=K7) R t).mono fun vs H1 Z0=>n6 (Z0) fun G1 ρ1 ws s1 R1 q1 t2=>?_
 obtain ⟨ds,ρ2,e2,r,er,p⟩:=t2.step fun r h=>a0a h
 refine f9 (z7 er) fun hz er=>?_
 cases er
 refine j7 (a0f R1 q1 e2) fun G2 s2 R2 rl=>?_
 refine ⟨by rw [rl.len]; exact U4 hz,fun pp hp=>?_⟩
 refine f9 (R2.a1Q hp rl) fun R3 r3=>?_
 exact p _ G2 _ s2 R3 r3
noncomputable def a5O:M W:=M.pure (.own (.dct []))
theorem a8J:PD X B (.Dict [] [] pos) a5O:=.mk fun ξ=>(b2z (X:=rz X ξ)).imp fun σ H Q t=>by
 refine l6 (t) fun G ρ R Z9=>c6 Z9 fun r e p=>?_
 cases e
 intro pp hp
 refine f9 (R.a8X hp .nil) fun R3 r3=>?_
 exact p _ G _ (i6.refl _) R3 r3
end
noncomputable def R9:List W→k9→Option (List D)
 | [],_=>some []
 | w::ws,ρ=>match getD w ρ,R9 ws ρ with
  | some d,some ds=>some (d::ds)
  | _,_=>none
noncomputable def opN (f:List D→Option W)(ws:List W):M W:=fun ρ=>match R9 ws ρ with
 | some ds=>(f ds).map (R'.ok · ρ)
 | none=>none
noncomputable def E3 (f:List D→Option W)(m:M (List W)):M W:=M.bind m fun ws=>opN f ws
noncomputable abbrev a7d (K:PySem.W.Frag)(G H:Hp):List V→List D→Prop:=Paired fun v d=>L0 K G H v d
noncomputable def a13 (B:Bs)(r:List V→Hp→VK→Prop)(f:List D→Option W):Prop:=∀ {G H:Hp} {σ:St} {ρ:k9} {xs:List V} {ds:List D} {w:W} {Q:VK},RS B G H σ ρ→a7d B.K G H xs ds→f ds=some w→
 (∀ v G' H',i6 G G'→RS B G' H' σ ρ→D4 B G' H' σ ρ v w→Q v H')→r xs H Q
theorem b4p {B:Bs}{ξ:XP}{f:List D→Option W}{ws:List W}{G:Hp}{ρ:k9}{σ:St}{Q:VK}(t:a0j C1 B ξ G ρ (opN f ws) σ Q):∃ ds w,R9 ws ρ=some ds∧f ds=some w∧∀ v G' H',i6 G G'→RS B G' H' σ ρ→D4 B G' H' σ ρ v w→Q v H':=by
 refine c6 (t) fun r e p=>?_
 unfold opN at e
 cases hx:R9 ws ρ with
 | none=>rw [hx] at e; cases e
 | some dx=>
  rw [hx] at e
  simp only [] at e
  cases hf:f dx with
  | none=>rw [hf] at e; cases e
  | some w=>
   rw [hf] at e
   cases e
   exact ⟨dx,w,rfl,hf,p⟩
theorem a0l {B:Bs}{G H:Hp}{σ:St}{ρ:k9}(R:RS B G H σ ρ):∀ {ws:List W} {vs:List V} {ds:List D},K7 B G H σ ρ vs ws→R9 ws ρ=some ds→a7d B.K G H vs ds
 | [],_,ds,q,e=>by cases q; cases e; exact .nil
 | w::ws,_,ds,q,e=>by
  cases q with
  | cons h t=>
   unfold R9 at e
   cases h1:getD w ρ with
   | none=>rw [h1] at e; cases e
   | some d=>
    cases h2:R9 ws ρ with
    | none=>rw [h1,h2] at e; cases e
    | some ds2=>
     rw [h1,h2] at e
     cases e
     exact .cons (h.1.get R h1) (a0l R t h2)
section
variable {X:Cx}{B:Bs}{e a b c:Expr}{es:List Expr}{ma mb mc:M W}{mr:M (List W)}{pos p:Pos}{x:Str}{id T:String}
theorem a7T {ξ:XP}{r:List V→Hp→VK→Prop}{f:List D→Option W}(hi:a13 B r f){σ:St}{H:Hp}{Q:VK}(t:TD C1 B ξ (E3 f mr) σ H Q):tCB r (TD K7 B ξ mr) σ H Q:=by
 refine l6 (t) fun G ρ R t=>?_
 refine (TD.bind (rel:=K7) R t).mono fun vs H1 Z0=>n6 (Z0) fun G1 ρ1 ws s1 R1 q1 t2=>?_
 refine i9 (b4p t2) fun ds w e1 e2 p=>?_
 exact hi R1 (a0l R1 q1 e1) e2 p
theorem a16 {r:List V→Hp→VK→Prop}{f:List D→Option W}(hc:∀ ξ,F8 (rz X ξ) (.builtin id) r)(hi:a13 B r f)(hg:Gl X x)(hm:X.mg x=none)(hv:bootBuiltins x=some (.builtin id))(ha:PDA X B (e::es) mr)(hn:autoParam (x≠"__name__") Y0._auto_1) (hdb:autoParam ((x == ("__debug__":Str))=false) Y0._auto_1)
  (he:autoParam (starEach (e::es) X.env=(false,eval e X.env)::starEach es X.env) m6._auto_1) (hpl:autoParam ((backTo pos (starEach es X.env)).any (·.1)=false) m6._auto_1):PD X B (.Call (.Name x p) (e::es) [] pos) (E3 f mr):=.mk fun ξ=>
 (b3k (X:=rz X ξ) (hc ξ) hg hm hv (ha.ap ξ) hn hdb he hpl).imp fun _ _ _ t=>a7T hi t
theorem a4U {r:List V→Hp→VK→Prop}{f:List D→Option W}(hc:∀ ξ,F8 (rz X ξ) (.type T) r)(hi:a13 B r f)(hg:Gl X x)(hm:X.mg x=none)(hv:bootBuiltins x=some (.type T))(ha:PDA X B (e::es) mr)(hn:autoParam (x≠"__name__") Y0._auto_1) (hdb:autoParam ((x == ("__debug__":Str))=false) Y0._auto_1)
  (he:autoParam (starEach (e::es) X.env=(false,eval e X.env)::starEach es X.env) m6._auto_1) (hpl:autoParam ((backTo pos (starEach es X.env)).any (·.1)=false) m6._auto_1):PD X B (.Call (.Name x p) (e::es) [] pos) (E3 f mr):=.mk fun ξ=>
 (a99 (X:=rz X ξ) (hc ξ) hg hm hv (ha.ap ξ) hn hdb he hpl).imp fun _ _ _ t=>a7T hi t
end
noncomputable def a1T:List D→Option W
 | [.lst ds]=>vI ds.length
 | [.tup ds]=>vI ds.length
 | [.str cs]=>grd (small cs.length) (vI cs.length)
 | [.dct es]=>vI es.length
 | _=>none
noncomputable def L1:List D→Option W
 | [.int i]=>vI i.natAbs
 | _=>none
noncomputable def a1u:List D→Option W
 | [.lst ds]=>some (.own (.lst ds))
 | [.tup ds]=>some (.own (.lst ds))
 | [.dct es]=>some (.own (.lst (es.map fun e=>match e.1 with | .inl i=>D.int i | .inr x=>D.str x.cps.toList)))
 | _=>none
noncomputable def a2Z:List D→Option W
 | [.lst ds]=>some (.val (.tup ds))
 | [.tup ds]=>some (.val (.tup ds))
 | _=>none
noncomputable def Z6:List D→Option (List Bool)
 | []=>some []
 | .bl b::ds=>(Z6 ds).map (b::·)
 | _=>none
noncomputable def b0P:List D→Option W
 | [.lst ds]=>(Z6 ds).bind fun bs=>vB (bs.all id)
 | _=>none
noncomputable def a8j:List D→Option W
 | [.lst ds]=>(Z6 ds).bind fun bs=>vB (bs.any id)
 | _=>none
theorem a4h:∀ {ds:List D} {bs:List Bool},Z6 ds=some bs→ds=bs.map D.bl
 | [],_,h=>by cases h; rfl
 | .bl b::ds,bs,h=>by
  unfold Z6 at h
  refine c6 (Option.map_eq_some_iff.mp h) fun bs' e Z1=>?_; subst Z1
  rw [a4h e]
  rfl
 | .w6::_,_,h=>by cases h
 | .int _::_,_,h=>by cases h
 | .str _::_,_,h=>by cases h
 | .ty _::_,_,h=>by cases h
 | .tup _::_,_,h=>by cases h
 | .lst _::_,_,h=>by cases h
 | .dct _::_,_,h=>by cases h
theorem b2n {K:PySem.W.Frag}{G:Hp}:∀ {bs:List Bool} {xs:List V},t6 K G xs (bs.map D.bl)→xs=bs.map V.bl
 | [],[],_=>rfl
 | [],_::_,r=>by have:=r.len; simp at this
 | _::_,[],r=>by have:=r.len; simp at this
 | b::bs,x::xs,r=>by
  have h:=r.head
  cases h
  rw [b2n r.tail]
  rfl
section
variable {X:Cx}{B:Bs}{e a b c:Expr}{es:List Expr}{ma mb mc:M W}{mr:M (List W)}{pos p:Pos}
theorem F0 {K:PySem.W.Frag}{G H:Hp}{xs:List V}{d:D}(h:a7d K G H xs [d]):∃ x,xs=[x]∧L0 K G H x d:=by
 cases h with
 | cons h t=>cases t; exact ⟨_,rfl,h⟩
theorem b1J {K:PySem.W.Frag}{G H:Hp}{xs:List V}{d d':D}(h:a7d K G H xs [d,d']):∃ x y,xs=[x,y]∧L0 K G H x d∧L0 K G H y d':=by
 cases h with
 | cons h t=>
  refine c6 (F0 t) fun y Z1 h2=>?_; subst Z1
  exact ⟨_,y,rfl,h,h2⟩
theorem a76:∀ {X:Cx},F8 X (.builtin "len") (fun xs H Q=>∃ a kvs,xs=[V.ref a]∧Rd H a (.dK kvs)∧Q (.int kvs.length) H):=by
 intro X pins s σ H xs us Q I r h
 refine i9 (h) fun a kvs Z1 ha q=>?_; subst Z1
 refine c6 (vals1 r) fun u Z1 ru=>?_; subst Z1
 cases ru
 exact L2.a3s I ha fun t s' I'=>⟨.int kvs.length,H,I',⟨t,rfl⟩,q⟩
theorem b22:a13 B (fun xs H Q=>(∃ p ys,xs=[.ref p]∧(L5 B.K H p ys∨Y8 B.K H p ys)∧Q (.int ys.length) H)∨(∃ z,xs=[.str z]∧z.length≤sizeLine∧Q (.int z.length) H)∨∃ a kvs,xs=[V.ref a]∧Rd H a (.dK kvs)∧Q (.int kvs.length) H) a1T:=by
 intro G H σ ρ xs ds w Q R h e p
 match ds,e with
 | [.lst ds],e=>
  cases e
  refine c6 (F0 h) fun x Z1 hx=>?_; subst Z1
  refine i9 (hx.lst R.gH) fun q ys Z1 h1 r1=>?_; subst Z1
  exact .inl ⟨q,ys,rfl,.inl h1,by rw [r1.len]; exact p _ G H (i6.refl _) R (.int _)⟩
 | [.tup ds],e=>
  cases e
  refine c6 (F0 h) fun x Z1 hx=>?_; subst Z1
  refine i9 (hx.tup R.gH) fun q ys Z1 h1 r1=>?_; subst Z1
  exact .inl ⟨q,ys,rfl,.inr h1,by rw [r1.len]; exact p _ G H (i6.refl _) R (.int _)⟩
 | [.str cs],e=>
  refine f9 (z7 e) fun z e=>?_
  cases e
  refine c6 (F0 h) fun x Z1 hx=>?_; subst Z1
  exact .inr (.inl ⟨tx cs,by rw [hx.str],by rw [a4w]; exact U4 z,by rw [a4w]; exact p _ G H (i6.refl _) R (.int _)⟩)
 | [.dct es],e=>
  cases e
  refine c6 (F0 h) fun x Z1 hx=>?_; subst Z1
  refine i9 (hx.dct R.gH) fun q ys Z1 h1 r1=>?_; subst Z1
  exact .inr (.inr ⟨q,ys,rfl,h1,by rw [r1.len]; exact p _ G H (i6.refl _) R (.int _)⟩)
theorem a3s (hm:X.mg "len"=none) (ha:PDA X B [e] mr) (hg:autoParam (Gl X "len") m6._auto_1) (hK:autoParam (X.K=B.K) m6._auto_1) (he:autoParam (starEach [e] X.env=(false,eval e X.env)::starEach [] X.env) m6._auto_1) (hpl:autoParam ((backTo pos (starEach [] X.env)).any (·.1)=false) m6._auto_1):PD X B (.Call (.Name "len" p) [e] [] pos) (E3 a1T mr):=
 a16 (fun ξ=>(b0z (X:=rz X ξ) (K:=B.K) hK).or (a54.or a76)) b22 hg hm PySem.boot_len ha (by decide) (by decide) he hpl
theorem b1T:a13 B (fun xs H Q=>∃ i,xs=[.int i]∧Q (.int (if i < 0 then -i else i)) H) L1:=by
 intro G H σ ρ xs ds w Q R h e p
 match ds,e with
 | [.int i],e=>
  cases e
  refine c6 (F0 h) fun x Z1 hx=>?_; subst Z1
  refine ⟨i,by rw [hx.int],?_⟩
  have ea:(if i < 0 then -i else i)=((i.natAbs:Nat):Int):=by split <;> omega
  rw [ea]
  exact p _ G H (i6.refl _) R (.int _)
theorem a0G (hm:X.mg "abs"=none) (ha:PDA X B [e] mr) (hg:autoParam (Gl X "abs") m6._auto_1) (he:autoParam (starEach [e] X.env=(false,eval e X.env)::starEach [] X.env) m6._auto_1) (hpl:autoParam ((backTo pos (starEach [] X.env)).any (·.1)=false) m6._auto_1):PD X B (.Call (.Name "abs" p) [e] [] pos) (E3 L1 mr):=
 a16 (fun ξ=>b3b) b1T hg hm PyProof.Rows.boot_abs ha (by decide) (by decide) he hpl
theorem a45 {X:Cx}{K:PySem.W.Frag}(hK:X.K=K):F8 X (.type "list") (fun xs H Q=>∃ p ys,xs=[.ref p]∧(L5 K H p ys∨Y8 K H p ys)∧∀ l,H l=none→Q (.ref l) (upd H l (.lst ys))):=by subst hK; exact a6s
theorem a36 {X:Cx}{K:PySem.W.Frag}(hK:X.K=K):F8 X (.type "tuple") (fun xs H Q=>∃ p ys,xs=[.ref p]∧((L5 K H p ys∧∀ l,H l=none→Q (.ref l) (upd H l (.tup ys)))∨(Y8 K H p ys∧Q (.ref p) H))):=by subst hK; exact a44
theorem b2f {K:PySem.W.Frag}{G:Hp}{kvs:List (Key×V)}{es:List (Key×D)}(r:n5 K G kvs es):t6 K G (kvs.map fun kv=>kV kv.1) (es.map fun e=>match e.1 with | .inl i=>D.int i | .inr x=>D.str x.cps.toList):=by
 refine n5.ind (P:=fun kvs es=>t6 K G (kvs.map fun kv=>kV kv.1) (es.map fun e=>match e.1 with | .inl i=>D.int i | .inr x=>D.str x.cps.toList)) .nil (fun p e kvs es hk hr _ ih=>?_) r
 rw [List.map_cons,List.map_cons]
 refine .cons ?_ ih
 rw [hk]
 cases e.1 with
 | inl i=>exact .int i
 | inr x=>exact a3M x
theorem a91:a13 B (fun xs H Q=>(∃ p ys,xs=[.ref p]∧(L5 B.K H p ys∨Y8 B.K H p ys)∧∀ l,H l=none→Q (.ref l) (upd H l (.lst ys)))∨∃ a kvs,xs=[.ref a]∧Rd H a (.dK kvs)∧∀ p,H p=none→Q (.ref p) (upd H p (.lst (kvs.map fun kv=>kV kv.1)))) a1u:=by
 intro G H σ ρ xs ds w Q R h e p
 match ds,e with
 | [.lst ds],e=>
  cases e
  refine c6 (F0 h) fun x Z1 hx=>?_; subst Z1
  refine i9 (hx.lst R.gH) fun q ys Z1 h1 r1=>?_; subst Z1
  refine .inl ⟨q,ys,rfl,.inl h1,fun l hl=>?_⟩
  refine f9 (R.a1Q hl r1) fun R' w'=>?_
  exact p _ G _ (i6.refl _) R' w'
 | [.tup ds],e=>
  cases e
  refine c6 (F0 h) fun x Z1 hx=>?_; subst Z1
  refine i9 (hx.tup R.gH) fun q ys Z1 h1 r1=>?_; subst Z1
  refine .inl ⟨q,ys,rfl,.inr h1,fun l hl=>?_⟩
  refine f9 (R.a1Q hl r1) fun R' w'=>?_
  exact p _ G _ (i6.refl _) R' w'
 | [.dct es],e=>
  cases e
  refine c6 (F0 h) fun x Z1 hx=>?_; subst Z1
  refine i9 (hx.dct R.gH) fun q ys Z1 h1 r1=>?_; subst Z1
  refine .inr ⟨q,ys,rfl,h1,fun l hl=>?_⟩
  refine f9 (R.a1Q hl (b2f r1)) fun R' w'=>?_
  exact p _ G _ (i6.refl _) R' w'
theorem a79 (hc:X.calm=true)(hm:X.mg "list"=none) (ha:PDA X B [e] mr) (hg:autoParam (Gl X "list") m6._auto_1) (hK:autoParam (X.K=B.K) m6._auto_1) (he:autoParam (starEach [e] X.env=(false,eval e X.env)::starEach [] X.env) m6._auto_1) (hpl:autoParam ((backTo pos (starEach [] X.env)).any (·.1)=false) m6._auto_1):PD X B (.Call (.Name "list" p) [e] [] pos) (E3 a1u mr):=
 a4U (fun ξ=>(a45 (X:=rz X ξ) (K:=B.K) hK).or (a4q hc)) a91 hg hm PyProof.Rows.boot_list ha (by decide) (by decide) he hpl
theorem a8f:a13 B (fun xs H Q=>∃ p ys,xs=[.ref p]∧((L5 B.K H p ys∧∀ l,H l=none→Q (.ref l) (upd H l (.tup ys)))∨(Y8 B.K H p ys∧Q (.ref p) H))) a2Z:=by
 intro G H σ ρ xs ds w Q R h e p
 match ds,e with
 | [.lst ds],e=>
  cases e
  refine c6 (F0 h) fun x Z1 hx=>?_; subst Z1
  refine i9 (hx.lst R.gH) fun q ys Z1 h1 r1=>?_; subst Z1
  refine ⟨q,ys,rfl,.inl ⟨h1,fun l hl=>?_⟩⟩
  refine j7 (R.a8Q hl r1) fun G' s' R' w'=>?_
  exact p _ G' _ s' R' w'
 | [.tup ds],e=>
  cases e
  refine c6 (F0 h) fun x Z1 hx=>?_; subst Z1
  have hx':=hx
  refine Or.elim (hx) (fun hx=>?_) fun Z1=>c6 (Z1) fun _ _ hf=>?_
  ·cases hx with
   | tup h1 l1 r1=>exact ⟨_,_,rfl,.inr ⟨R.gH.tup h1,p _ G H (i6.refl _) R (.tup h1 l1 r1)⟩⟩
  ·exact (show False from hf).elim
theorem a3W (hm:X.mg "tuple"=none) (ha:PDA X B [e] mr) (hg:autoParam (Gl X "tuple") m6._auto_1) (hK:autoParam (X.K=B.K) m6._auto_1) (he:autoParam (starEach [e] X.env=(false,eval e X.env)::starEach [] X.env) m6._auto_1) (hpl:autoParam ((backTo pos (starEach [] X.env)).any (·.1)=false) m6._auto_1):PD X B (.Call (.Name "tuple" p) [e] [] pos) (E3 a2Z mr):=
 a4U (fun ξ=>a36 (X:=rz X ξ) (K:=B.K) hK) a8f hg hm PyProof.Rows.boot_tuple ha (by decide) (by decide) he hpl
theorem b1r:a13 B (fun xs H Q=>∃ (p:Addr) (bs:List Bool),xs=[.ref p]∧L5 B.K H p (bs.map V.bl)∧Q (.bl (bs.all id)) H) b0P:=by
 intro G H σ ρ xs ds w Q R h e p
 match ds,e with
 | [.lst ds],e=>
  refine c6 (F0 h) fun x Z1 hx=>?_; subst Z1
  have e:(Z6 ds).bind (fun bs=>vB (bs.all id))=some w:=e
  cases hb:Z6 ds with
  | none=>rw [hb] at e; cases e
  | some bs=>
   rw [hb] at e
   cases e
   rw [a4h hb] at hx
   refine i9 (hx.lst R.gH) fun q ys Z1 h1 r1=>?_; subst Z1
   rw [b2n r1] at h1
   exact ⟨q,bs,rfl,h1,p _ G H (i6.refl _) R (.bl _)⟩
theorem b1E:a13 B (fun xs H Q=>∃ (p:Addr) (bs:List Bool),xs=[.ref p]∧L5 B.K H p (bs.map V.bl)∧Q (.bl (bs.any id)) H) a8j:=by
 intro G H σ ρ xs ds w Q R h e p
 match ds,e with
 | [.lst ds],e=>
  refine c6 (F0 h) fun x Z1 hx=>?_; subst Z1
  have e:(Z6 ds).bind (fun bs=>vB (bs.any id))=some w:=e
  cases hb:Z6 ds with
  | none=>rw [hb] at e; cases e
  | some bs=>
   rw [hb] at e
   cases e
   rw [a4h hb] at hx
   refine i9 (hx.lst R.gH) fun q ys Z1 h1 r1=>?_; subst Z1
   rw [b2n r1] at h1
   exact ⟨q,bs,rfl,h1,p _ G H (i6.refl _) R (.bl _)⟩
theorem b7L (hc:X.calm=true)(hm:X.mg "all"=none) (ha:PDA X B [e] mr) (hg:autoParam (Gl X "all") m6._auto_1) (hK:autoParam (X.K=B.K) m6._auto_1) (he:autoParam (starEach [e] X.env=(false,eval e X.env)::starEach [] X.env) m6._auto_1) (hpl:autoParam ((backTo pos (starEach [] X.env)).any (·.1)=false) m6._auto_1):PD X B (.Call (.Name "all" p) [e] [] pos) (E3 b0P mr):=
 a16 (fun ξ=>b0o (X:=rz X ξ) (K:=B.K) hK hc) b1r hg hm PyProof.Rows.boot_all ha (by decide) (by decide) he hpl
theorem b5u (hc:X.calm=true)(hm:X.mg "any"=none) (ha:PDA X B [e] mr) (hg:autoParam (Gl X "any") m6._auto_1) (hK:autoParam (X.K=B.K) m6._auto_1) (he:autoParam (starEach [e] X.env=(false,eval e X.env)::starEach [] X.env) m6._auto_1) (hpl:autoParam ((backTo pos (starEach [] X.env)).any (·.1)=false) m6._auto_1):PD X B (.Call (.Name "any" p) [e] [] pos) (E3 a8j mr):=
 a16 (fun ξ=>b0h (X:=rz X ξ) (K:=B.K) hK hc) b1E hg hm PyProof.Rows.boot_any ha (by decide) (by decide) he hpl
end
end L3
set_option Elab.async false
set_option linter.all false
set_option maxRecDepth 100000
set_option maxHeartbeats 4000000
namespace L3
open PySem PySem.Spec PyProof.Rows L2
inductive SR where
 | nx (ρ:k9) | rt (w:W) (ρ:k9) | bk (ρ:k9) | ct (ρ:k9) | ex (x:Exn) (ρ:k9)
noncomputable abbrev SM:=k9→Option SR
noncomputable def a3p (B:Bs)(ξ:XP)(G:Hp)(Dn:Ends):SR→Prop
 | .nx ρ'=>∀ σ' G' H',i6 G G'→RS B G' H' σ' ρ'→Dn.nx σ' H'
 | .bk ρ'=>∀ σ' G' H',i6 G G'→RS B G' H' σ' ρ'→Dn.bk σ' H'
 | .ct ρ'=>∀ σ' G' H',i6 G G'→RS B G' H' σ' ρ'→Dn.ct σ' H'
 | .rt w ρ'=>∀ v σ' G' H',i6 G G'→RS B G' H' σ' ρ'→D4 B G' H' σ' ρ' v w→Dn.rt v H'
 | .ex x ρ'=>∀ σ' G' H',i6 G G'→RS B G' H' σ' ρ'→ξ x σ' H'
noncomputable def a6I (B:Bs)(ξ:XP)(G:Hp)(ρ:k9)(m:SM)(Dn:Ends):Prop:=∃ r,m ρ=some r∧a3p B ξ G Dn r
noncomputable def SD (B:Bs)(ξ:XP)(m:SM):TS:=fun Dn σ H=>∃ G ρ,RS B G H σ ρ∧a6I B ξ G ρ m Dn
structure PSD (X:Cx) (B:Bs) (st:Stmt) (m:SM):Prop where
 ap:∀ ξ,PS (rz X ξ) st (SD B ξ m)
structure a2P (X:Cx) (B:Bs) (st:List Stmt) (m:SM):Prop where
 ap:∀ ξ,PSs (rz X ξ) st (SD B ξ m)
section
variable {X:Cx}{B:Bs}{ξ:XP}{G G' H:Hp}{σ:St}{ρ:k9}{Dn:Ends}{st:Stmt}{rest:List Stmt}{m1 m2:SM}{e c:Expr}{me:M W}{pos:Pos}
theorem a3p.same {r:SR}(s:i6 G G')(h:a3p B ξ G Dn r):a3p B ξ G' Dn r:=by
 cases r with
 | nx ρ'=>exact fun σ2 G2 H2 s2=>h σ2 G2 H2 (s.trans s2)
 | bk ρ'=>exact fun σ2 G2 H2 s2=>h σ2 G2 H2 (s.trans s2)
 | ct ρ'=>exact fun σ2 G2 H2 s2=>h σ2 G2 H2 (s.trans s2)
 | rt w ρ'=>exact fun v σ2 G2 H2 s2=>h v σ2 G2 H2 (s.trans s2)
 | ex x ρ'=>exact fun σ2 G2 H2 s2=>h σ2 G2 H2 (s.trans s2)
noncomputable def p6 (m1 m2:SM):SM:=fun ρ=>match m1 ρ with
 | some (.nx ρ')=>m2 ρ'
 | r=>r
theorem b3Z {m1 m2:SM}{ρ ρ':k9}(h:m1 ρ=some (.nx ρ')):p6 m1 m2 ρ=m2 ρ':=by unfold p6; rw [h]
noncomputable def nxS:SM:=fun ρ=>some (.nx ρ)
theorem Q7:a2P X B [] nxS:=.mk fun ξ=>(b4K (X:=rz X ξ)).imp fun Dn σ H t=>by
 refine l6 (t) fun G ρ R Z9=>c6 Z9 fun r e p=>?_
 cases e
 exact p σ G H (i6.refl _) R
theorem k6 (h1:PSD X B st m1)(h2:a2P X B rest m2):a2P X B (st::rest) (p6 m1 m2):=.mk fun ξ=>(b3l (h1.ap ξ) (h2.ap ξ)).imp fun Dn σ H t=>by
 refine l6 (t) fun G ρ R Z9=>c6 Z9 fun r e p=>?_
 unfold p6 at e
 cases h:m1 ρ with
 | none=>rw [h] at e; cases e
 | some r1=>
  rw [h] at e
  refine ⟨G,ρ,R,r1,h,?_⟩
  cases r1 with
  | nx ρ1=>exact fun σ' G' H' s R'=>⟨G',ρ1,R',r,e,p.same s⟩
  | bk ρ1=>cases e; exact p
  | ct ρ1=>cases e; exact p
  | rt w ρ1=>cases e; exact p
  | ex x ρ1=>cases e; exact p
theorem p9 (h1:PSD X B st m1):a2P X B [st] m1:=.mk fun ξ=>b35 (h1.ap ξ)
noncomputable def C3 {α:Type}(m:M α)(f:α→SM):SM:=fun ρ=>match m ρ with
 | none=>none
 | some (.ex x ρ')=>some (.ex x ρ')
 | some (.ok a ρ')=>f a ρ'
theorem u5 {α:Type}{m:M α}{f:α→SM}{ρ ρ':k9}{a:α}(h:m ρ=some (.ok a ρ')):C3 m f ρ=f a ρ':=by unfold C3; rw [h]
theorem SD.step {α β:Type}{rel:Rel α β}{m:M α}{f:α→SM}(R:RS B G H σ ρ)(t:a6I B ξ G ρ (C3 m f) Dn):TD rel B ξ m σ H (fun v H1=>∃ G1 ρ1 a,i6 G G1∧RS B G1 H1 σ ρ1∧rel B G1 H1 σ ρ1 v a∧a6I B ξ G1 ρ1 (f a) Dn):=by
 refine c6 (t) fun r e p=>?_
 unfold C3 at e
 cases hm:m ρ with
 | none=>rw [hm] at e; cases e
 | some r1=>
  rw [hm] at e
  cases r1 with
  | ex x ρ1=>
   cases e
   exact ⟨G,ρ,R,_,hm,fun G' H' s R'=>p σ G' H' s R'⟩
  | ok a ρ1=>exact ⟨G,ρ,R,_,hm,fun v G1 H1 s R1 q=>⟨G1,ρ1,a,s,R1,q,r,e,p.same s⟩⟩
theorem SD.b75 {α β:Type}{rel:Rel α β}{m:M α}{f:α→SM}(R:RS B G H σ ρ)(t:a6I B ξ G ρ (C3 m f) Dn):TD rel B ξ m σ H (fun v H1=>∃ G1 ρ1 a,m ρ=some (.ok a ρ1)∧i6 G G1∧RS B G1 H1 σ ρ1∧rel B G1 H1 σ ρ1 v a∧a6I B ξ G1 ρ1 (f a) Dn):=by
 refine c6 (t) fun r e p=>?_
 unfold C3 at e
 cases hm:m ρ with
 | none=>rw [hm] at e; cases e
 | some r1=>
  rw [hm] at e
  cases r1 with
  | ex x ρ1=>
   cases e
   exact ⟨G,ρ,R,_,hm,fun G' H' s R'=>p σ G' H' s R'⟩
  | ok a ρ1=>exact ⟨G,ρ,R,_,hm,fun v G1 H1 s R1 q=>⟨G1,ρ1,a,rfl,s,R1,q,r,e,p.same s⟩⟩
noncomputable def V0 (m:M W):SM:=C3 m fun _=>nxS
theorem a1a (he:PD X B e me)(hs:autoParam (swapsWith e none pos.line X.env=pure false) m6._auto_1):PSD X B (.Expr e pos) (V0 me):=.mk fun ξ=>(b4D (X:=rz X ξ) (he.ap ξ) hs).imp fun Dn σ H t=>by
 refine l6 (t) fun G ρ R t=>?_
 refine (SD.step (rel:=C1) R t).mono fun v H1 Z0=>n6 (Z0) fun G1 ρ1 a s1 R1 q1 Z9=>c6 Z9 fun r e p=>?_
 cases e
 exact p σ G1 H1 (i6.refl _) R1
noncomputable def b5w (w:W):SM:=fun ρ=>match w with
 | .val d=>some (.rt (.val d) ρ)
 | .own d=>some (.rt (.own d) ρ)
 | .slot i=>match ρ[i]? with
  | some (some (.sh d))=>some (.rt (.val d) ρ)
  | some (some (.ow false d))=>some (.rt (.own d) (ρ.set i none))
  | _=>none
noncomputable def retS (m:M W):SM:=C3 m b5w
theorem RS.forget {i:Nat}(R:RS B G H σ ρ):RS B G H σ (ρ.set i none):=by
 by_cases hi:i < ρ.length
 ·refine ⟨R.hk,R.keep,R.g0,R.gH,R.gnew,R.dom,by simp [R.len],fun j d' q'=>?_,fun j l d' q'=>?_,fun j k l d' l' e' p' a b=>?_,R.fz.a3E (by intro _ h; cases h),R.ob.a3E (by intro _ h; cases h <;> rfl) (by intro _ h; cases h)⟩
  ·by_cases z:i=j
   ·subst z; rw [List.getElem?_set_self hi] at q'; cases q'
   ·rw [List.getElem?_set_ne z] at q'; exact R.sh j d' q'
  ·by_cases z:i=j
   ·subst z; rw [List.getElem?_set_self hi] at q'; cases q'
   ·rw [List.getElem?_set_ne z] at q'; exact R.ow j l d' q'
  ·by_cases z:i=j
   ·subst z; rw [List.getElem?_set_self hi] at a; cases a
   ·by_cases z':i=k
    ·subst z'; rw [List.getElem?_set_self hi] at b; cases b
    ·rw [List.getElem?_set_ne z] at a
     rw [List.getElem?_set_ne z'] at b
     exact R.inj j k l d' l' e' p' a b
 ·rw [List.set_eq_of_length_le (by omega)]
  exact R
theorem E2 (he:PD X B e me):PSD X B (.Return (some e) pos) (retS me):=.mk fun ξ=>(b6P (he.ap ξ)).imp fun Dn σ H t=>by
 refine l6 (t) fun G ρ R t=>?_
 refine (SD.step (rel:=C1) R t).mono fun v H1 Z0=>n6 (Z0) fun G1 ρ1 w s1 R1 q1 Z9=>c6 Z9 fun r e p=>?_
 unfold b5w at e
 cases w with
 | val d=>cases e; exact p v σ G1 H1 (i6.refl _) R1 q1
 | own d=>cases e; exact p v σ G1 H1 (i6.refl _) R1 q1
 | slot i=>
  have h':σ[i]?=some (some v):=q1
  simp only [] at e
  split at e
  ·rename_i d' q
   cases e
   refine c6 (R1.sh i _ q) fun v' q1 r=>?_
   rw [h'] at q1
   cases q1
   exact p v σ G1 H1 (i6.refl _) R1 r
  ·rename_i d' q
   cases e
   refine x6 (R1.ow i _ _ q) fun pp q1 q2 q3 q4 o=>?_
   have hi:i < ρ1.length:=(List.getElem?_eq_some_iff.mp q).1
   rw [h'] at q1
   cases q1
   refine p _ σ G1 H1 (i6.refl _) R1.forget ⟨pp,rfl,q2,q4,o,fun j l e' q' z=>?_⟩
   by_cases zz:i=j
   ·subst zz; rw [List.getElem?_set_self hi] at q'; cases q'
   ·rw [List.getElem?_set_ne zz] at q'
    exact zz (R1.inj i j _ _ _ _ pp q q' h' z)
  ·cases e
noncomputable def ifS (c:M Bool)(a b:SM):SM:=C3 c fun k=>if k=true then a else b
theorem V8 {mc:M Bool}{a b:List Stmt}(hc:PDT X B c mc)(ha:a2P X B a m1)(hb:a2P X B b m2):PSD X B (.If c a b pos) (ifS mc m1 m2):=.mk fun ξ=>(b8w (hc.ap ξ) (ha.ap ξ) (hb.ap ξ)).imp fun Dn σ H t=>by
 refine l6 (t) fun G ρ R t=>?_
 refine (SD.step (rel:=a0L) R t).mono fun k H1 Z0=>n6 (Z0) fun G1 ρ1 k' s1 R1 q1 t2=>?_
 cases (show k=k' from q1)
 cases k with
 | true=>exact ⟨G1,ρ1,R1,t2⟩
 | false=>exact ⟨G1,ρ1,R1,t2⟩
theorem RS.a9M {i:Nat}{v:V}{d:D}(R:RS B G H σ ρ)(hi:i < ρ.length)(h:Rep B.K G v d):RS B G H (σ.set i (some v)) (ρ.set i (some (.sh d))):=by
 have hs:i < σ.length:=by rw [R.len]; exact hi
 refine ⟨R.hk,R.keep,R.g0,R.gH,R.gnew,R.dom,by simp [R.len],fun j d' q'=>?_,fun j l d' q'=>?_,fun j k l d' l' e' p' a b=>?_,R.fz.a7s (by intro _ h; cases h),R.ob.a7s (by intro _ h; cases h <;> rfl) (by intro _ h; cases h)⟩
 ·by_cases z:i=j
  ·subst z
   rw [List.getElem?_set_self hi] at q'
   cases q'
   exact ⟨v,by rw [List.getElem?_set_self hs],h⟩
  ·rw [List.getElem?_set_ne z] at q' ⊢; exact R.sh j d' q'
 ·by_cases z:i=j
  ·subst z; rw [List.getElem?_set_self hi] at q'; cases q'
  ·rw [List.getElem?_set_ne z] at q' ⊢; exact R.ow j l d' q'
 ·by_cases z:i=j
  ·subst z; rw [List.getElem?_set_self hi] at a; cases a
  ·by_cases z':i=k
   ·subst z'; rw [List.getElem?_set_self hi] at b; cases b
   ·rw [List.getElem?_set_ne z] at a ⊢
    rw [List.getElem?_set_ne z'] at b ⊢
    exact R.inj j k l d' l' e' p' a b
theorem RS.b79 {i:Nat}{v:V}{d:D}(R:RS B G H σ ρ)(hi:i < ρ.length)(h:D4 B G H σ ρ v (.own d)):RS B G H (σ.set i (some v)) (ρ.set i (some (.ow false d))):=by
 refine x6 (h) fun p Z1 g h0 o ne=>?_; subst Z1
 have hs:i < σ.length:=by rw [R.len]; exact hi
 refine ⟨R.hk,R.keep,R.g0,R.gH,R.gnew,R.dom,by simp [R.len],fun j d' q'=>?_,fun j l d' q'=>?_,fun j k l d' l' e' p' a b=>?_,R.fz.a7s (by intro _ h; cases h),R.ob.a7s (by intro _ h; cases h <;> rfl) (by intro _ h; cases h)⟩
 ·by_cases z:i=j
  ·subst z; rw [List.getElem?_set_self hi] at q'; cases q'
  ·rw [List.getElem?_set_ne z] at q' ⊢; exact R.sh j d' q'
 ·by_cases z:i=j
  ·subst z
   rw [List.getElem?_set_self hi] at q'
   cases q'
   refine ⟨p,by rw [List.getElem?_set_self hs],g,?_,h0,o⟩
   cases hq:B.HK p with
   | none=>rfl
   | some ob=>rw [R.hk p ob hq] at h0; cases h0
  ·rw [List.getElem?_set_ne z] at q' ⊢; exact R.ow j l d' q'
 ·by_cases z:i=j
  ·by_cases z':i=k
   ·intro _ _; omega
   ·subst z
    rw [List.getElem?_set_self hs,List.getElem?_set_ne z']
    rw [List.getElem?_set_ne z'] at b
    intro a1 a2
    cases a1
    exact absurd a2 (ne k l' e' b)
  ·by_cases z':i=k
   ·subst z'
    rw [List.getElem?_set_self hs,List.getElem?_set_ne z]
    rw [List.getElem?_set_ne z] at a
    intro a1 a2
    cases a2
    exact absurd a1 (ne j l d' a)
   ·rw [List.getElem?_set_ne z] at a ⊢
    rw [List.getElem?_set_ne z'] at b ⊢
    exact R.inj j k l d' l' e' p' a b
noncomputable def a2U (i:Nat)(w:W):SM:=fun ρ=>if i < ρ.length then match w with
 | .own d=>some (.nx (ρ.set i (some (.ow false d))))
 | w=>match D3 w ρ with
  | some (.ok d ρ')=>some (.nx (ρ'.set i (some (.sh d))))
  | _=>none
 else none
noncomputable def u6 (i:Nat)(m:M W):SM:=C3 m (a2U i)
theorem b2C {w:W}{ρ ρ':k9}{d:D}(h:D3 w ρ=some (.ok d ρ')):ρ'.length=ρ.length:=by
 unfold D3 at h
 cases w with
 | val d=>cases h; rfl
 | own d=>cases h; rfl
 | slot i=>
  simp only [] at h
  split at h
  ·cases h; rfl
  ·cases h; simp
  ·cases h; rfl
  ·cases h
theorem a2K {i:Nat}{w:W}{v:V}{r:SR}(R:RS B G H σ ρ)(q:D4 B G H σ ρ v w)(e:a2U i w ρ=some r):∃ ρ' G',r=.nx ρ'∧i6 G G'∧RS B G' H (σ.set i (some v)) ρ':=by
 unfold a2U at e
 split at e
 ·rename_i hi
  cases w with
  | own d=>cases e; exact ⟨_,G,rfl,i6.refl _,R.b79 hi q⟩
  | val d=>
   cases e
   exact ⟨_,G,rfl,i6.refl _,R.a9M hi q⟩
  | slot j=>
   simp only [] at e
   split at e
   ·rename_i d ρ1 hl
    cases e
    refine j7 (q.D3 R hl) fun G' s' R' r'=>?_
    exact ⟨_,G',rfl,s',R'.a9M (by rw [b2C hl]; exact hi) r'⟩
   ·cases e
 ·cases e
theorem z8 {i:Nat}{x:Str}{pos':Pos}(he:PD X B e me)(hN:X.N.Nodup)(hi:autoParam (X.N[i]?=some x) m6._auto_1)(hx:autoParam (Loc X.env.scope x) au0._auto_1)(hs:autoParam (swapsWith e (some (.Name x pos')) pos.line X.env=pure false) m6._auto_1)(hf:autoParam (X.fn x=true∨X.env.scope.names.lookup x=some .local) au0._auto_1):
  PSD X B (.Assign [.Name x pos'] e pos) (u6 i me):=.mk fun ξ=>(b1K (X:=rz X ξ) hN hi hx (he.ap ξ) hs hf).imp fun Dn σ H t=>by
 refine l6 (t) fun G ρ R t=>?_
 refine (SD.step (rel:=C1) R t).mono fun v H1 Z0=>n6 (Z0) fun G1 ρ1 w s1 R1 q1 Z9=>c6 Z9 fun r e p=>?_
 refine i9 (a2K R1 q1 e) fun ρ' G' Z1 s' R'=>?_; subst Z1
 exact p _ G' H1 s' R'
end
structure Gives (K:PySem.W.Frag) (Gs:Hp) (J:It) (ds:List D):Prop where
 go:∀ (G H:Hp) (i:Nat),i6 Gs G→i6 G H→i < ds.length→J.go i H
 stop:∀ (G H:Hp),i6 Gs G→i6 G H→J.stop ds.length H
 yld:∀ (G H H':Hp) (i:Nat) (x:V),i6 Gs G→i6 G H→i < ds.length→J.yld i H x H'→H'=H∧∃ d,ds[i]?=some d∧Rep K G x d
noncomputable def TDI (B:Bs)(ξ:XP)(m:M (List D)):TI:=fun σ H R=>∃ G ρ r,RS B G H σ ρ∧m ρ=some r∧match r with
 | .ok ds ρ'=>∀ J G' H',i6 G G'→RS B G' H' σ ρ'→Gives B.K G' J ds→R J H'
 | .ex x ρ'=>∀ G' H',i6 G G'→RS B G' H' σ ρ'→ξ x σ H'
structure PDI (X:Cx) (B:Bs) (tg iter:Expr) (m:M (List D)):Prop where
 ap:∀ ξ,PI (rz X ξ) tg iter (TDI B ξ m)
theorem _root_.L2.PI.imp {X:Cx}{tg e:Expr}{t t':TI}(h:PI X tg e t)(i:∀ σ H R,t' σ H R→t σ H R):PI X tg e t':=fun pins s σ H R I q=>h pins s σ H R I (i σ H R q)
noncomputable def itD:D→Option (List D)
 | .lst ds=>some ds
 | .tup ds=>some ds
 | .str cs=>some (cs.map fun c=>D.str [c])
 | _=>none
noncomputable def C9 (m:M W):M (List D):=M.bind m fun w=>M.bind (D3 w) fun d=>fun ρ=>(itD d).map (R'.ok · ρ)
section
variable {X:Cx}{B:Bs}{tg e a b c:Expr}{ma mb mc:M W}{mr:M (List W)}{pos p:Pos}
noncomputable def b9y (K:PySem.W.Frag)(tl:TE):TI:=fun σ H R=>tl σ H fun x H1=>(∃ a xs,x=.ref a∧L5 K H1 a xs∧R (Itl K a) H1)∨(∃ a xs,x=.ref a∧Y8 K H1 a xs∧R (Itt K a) H1)∨∃ y,x=.str y∧R (Its y) H1
theorem b6x {l:Expr}{tl:TE}{K:PySem.W.Frag}(hK:X.K=K)(hl:PE X l tl):PI X tg l (b9y K tl):=by
 subst hK
 intro pins s σ H R I h
 refine E6 (hl pins s σ H _ I h) fun v s1 Z0=>i9 (Z0) fun x H1 I1 r1 q1=>?_
 have fp:∀ b∈[s1.heap.objs.size],a39 X pins H1 b:=fun b hb=>by
  have e:b=s1.heap.objs.size:=by simpa using hb
  subst e
  exact I1.b2W (Nat.le_refl _) (I1.hok.fresh (Nat.le_refl _))
 rcases q1 with ⟨a,xs,rfl,hq,q⟩ | ⟨a,xs,rfl,hq,q⟩ | ⟨y,rfl,q⟩
 ·cases r1
  refine j7 (I1.list hq) fun its rv p hz=>?_
  refine wpAny_pyIter_list p.isList ?_
  exact ⟨s1.heap.objs.size,[s1.heap.objs.size],_,_,H1,rfl,I1.kept (t':=s1.toks) fun b o e=>Heap.get?_push_of_some _ e,b0f a _,⟨_,Heap.get?_push_size _ rfl,rfl,rfl⟩,fp,q⟩
 ·cases r1
  refine j7 (I1.tuple hq) fun its rv p hz=>?_
  refine wpAny_pyIter_tuple (show s1.heap.IsTuple a its.toArray from p) ?_
  exact ⟨s1.heap.objs.size,[s1.heap.objs.size],_,_,H1,rfl,I1.kept (t':=s1.toks) fun b o e=>Heap.get?_push_of_some _ e,a74 a _,⟨_,Heap.get?_push_size _ rfl,rfl,rfl⟩,fp,q⟩
 ·refine g8 (r1) fun t Z1=>?_; subst Z1
  cases ha:y.cps.all (· < 128)
  ·exact wpAny_pyIter_wide ha ⟨s1.heap.objs.size,[s1.heap.objs.size],_,Its y,H1,rfl,I1.kept (t':=s1.toks) fun b o e=>Heap.get?_push_of_some _ e,b0X y t _,⟨_,Heap.get?_push_size _ rfl,rfl,rfl⟩,fp,q⟩
  ·exact wpAny_pyIter_ascii ha ⟨s1.heap.objs.size,[s1.heap.objs.size],_,Its y,H1,rfl,I1.kept (t':=s1.toks) fun b o e=>Heap.get?_push_of_some _ e,b0H y t _,⟨_,Heap.get?_push_size _ rfl,rfl,rfl⟩,fp,q⟩
theorem a8x {K:PySem.W.Frag}{G:Hp}{a:Addr}{xs:List V}{ds:List D}(h:L5 K G a xs)(r:t6 K G xs ds):Gives K G (Itl K a) ds where
 go:=fun G' H i s1 s2 hi=>by
  have hx:i < xs.length:=by rw [r.len]; exact hi
  exact ⟨xs,xs[i],(s1.trans s2).seq h,by simp [hx]⟩
 stop:=fun G' H s1 s2=>⟨xs,(s1.trans s2).seq h,by rw [r.len]; exact Nat.le_refl _⟩
 yld:=fun G' H H' i x s1 s2 hi y=>by
  obtain ⟨rfl,y⟩:=y
  have e:=y xs ((s1.trans s2).seq h)
  refine c6 (r.atV e) fun d e2 r2=>?_
  exact ⟨rfl,d,e2,r2.same s1⟩
theorem b0S {K:PySem.W.Frag}{G:Hp}{a:Addr}{xs:List V}{ds:List D}(h:Y8 K G a xs)(r:t6 K G xs ds):Gives K G (Itt K a) ds where
 go:=fun G' H i s1 s2 hi=>by
  have hx:i < xs.length:=by rw [r.len]; exact hi
  exact ⟨xs,xs[i],(s1.trans s2).tup h,by simp [hx]⟩
 stop:=fun G' H s1 s2=>⟨xs,(s1.trans s2).tup h,by rw [r.len]; exact Nat.le_refl _⟩
 yld:=fun G' H H' i x s1 s2 hi y=>by
  obtain ⟨rfl,y⟩:=y
  have e:=y xs ((s1.trans s2).tup h)
  refine c6 (r.atV e) fun d e2 r2=>?_
  exact ⟨rfl,d,e2,r2.same s1⟩
theorem b00 {K:PySem.W.Frag}{G:Hp}(cs:List Nat):Gives K G (Its (tx cs)) (cs.map fun c=>D.str [c]) where
 go:=fun G' H i s1 s2 hi=>by
  show i < (tx cs).cps.size
  simpa using hi
 stop:=fun G' H s1 s2=>by
  show (tx cs).cps.size≤_
  simp
 yld:=fun G' H H' i x s1 s2 hi y=>by
  refine f9 (y) fun Z1 Z9=>c6 Z9 fun c hc Z2=>?_; subst Z1; subst Z2
  refine ⟨rfl,.str [c],?_,.str [c]⟩
  rw [List.getElem?_map]
  have hc':cs[i]?=some c:=by simpa using hc
  rw [hc']
  rfl
theorem a3e {K:PySem.W.Frag}{G:Hp}(lo:Int)(n:Nat):Gives K G (Itr lo n) ((List.range n).map fun k=>D.int (lo + ((k:Nat):Int))) where
 go:=fun G' H i s1 s2 hi=>by
  show i < n
  simpa using hi
 stop:=fun G' H s1 s2=>by
  show n≤_
  simp
 yld:=fun G' H H' i x s1 s2 hi y=>by
  refine f9 (y) fun Z1 Z2=>?_; subst Z1; subst Z2
  have hi':i < n:=by simpa using hi
  refine ⟨rfl,.int (lo + i),?_,.int _⟩
  rw [List.getElem?_map,List.getElem?_range hi']
  rfl
theorem a0J (ha:PD X B e ma)(hK:autoParam (X.K=B.K) m6._auto_1):PDI X B tg e (C9 ma):=.mk fun ξ=>(b6x (X:=rz X ξ) (K:=B.K) hK (ha.ap ξ)).imp fun σ H Rr t=>by
 refine E5 (t) fun G ρ r R e p=>?_
 have conv:a0j (rel:=(fun (B:Bs) (G H:Hp) (σ:St) (ρ:k9) (J:It) (ds:List D)=>Gives B.K G J ds)) B ξ G ρ (C9 ma) σ (fun J H=>Rr J H):=by
  refine ⟨r,e,?_⟩
  cases r with
  | ok ds ρ'=>exact fun J G' H' s R' g=>p J G' H' s R' g
  | ex x ρ'=>exact p
 refine (TD.bind (rel:=C1) R conv).mono fun x H1 Z0=>n6 (Z0) fun G1 ρ1 w s1 R1 q1 t2=>?_
 obtain ⟨d,ρ2,e2,r2,er,p2⟩:=t2.step fun r h=>W3 h
 refine j7 (q1.D3 R1 e2) fun G2 s2 R2 rp=>?_
 cases hd:itD d with
 | none=>rw [hd] at er; cases er
 | some ds=>
  rw [hd] at er
  cases er
  cases rp with
  | @lst a xs ds' h l r=>
   cases hd
   refine .inl ⟨a,xs,rfl,R2.gH.seq h,p2 (Itl B.K a) G2 H1 s2 R2 ?_⟩
   exact a8x h ⟨l,r⟩
  | @tup a xs ds' h l r=>
   cases hd
   exact .inr (.inl ⟨a,xs,rfl,R2.gH.tup h,p2 (Itt B.K a) G2 H1 s2 R2 (b0S h ⟨l,r⟩)⟩)
  | str cs=>
   cases hd
   exact .inr (.inr ⟨tx cs,rfl,p2 (Its (tx cs)) G2 H1 s2 R2 (b00 cs)⟩)
  | _=>cases hd
end
end L3
set_option Elab.async false
set_option linter.all false
set_option maxRecDepth 100000
set_option maxHeartbeats 4000000
namespace L3
open PySem PySem.Spec PyProof.Rows L2
noncomputable def ints1:List D→Option (List D)
 | [.int n]=>grd (-(2 ^ 62)≤n∧n < 2 ^ 62) (some ((List.range n.toNat).map fun k=>D.int (0 + ((k:Nat):Int))))
 | _=>none
noncomputable def ints2:List D→Option (List D)
 | [.int i,.int j]=>grd (-(2 ^ 62)≤i∧i < 2 ^ 62∧-(2 ^ 62)≤j∧j < 2 ^ 62) (some ((List.range (j - i).toNat).map fun k=>D.int (i + ((k:Nat):Int))))
 | _=>none
noncomputable def a0O (f:List D→Option (List D))(m:M (List W)):M (List D):=M.bind m fun ws=>fun ρ=>match R9 ws ρ with
 | some ds=>(f ds).map (R'.ok · ρ)
 | none=>none
noncomputable def b7D:Rel (List D) It:=fun B G H σ ρ J ds=>Gives B.K G J ds
section
variable {X:Cx}{B:Bs}{tg e a b c:Expr}{ma mb mc:M W}{mr:M (List W)}{pos p:Pos}
theorem a81 {ξ:XP}{m:M (List D)}{σ:St}{H:Hp}{Rr:It→Hp→Prop}(t:TDI B ξ m σ H Rr):∃ G ρ,RS B G H σ ρ∧a0j b7D B ξ G ρ m σ Rr:=by
 refine E5 (t) fun G ρ r R e p=>?_
 refine ⟨G,ρ,R,r,e,?_⟩
 cases r with
 | ok ds ρ'=>exact fun J G' H' s R' g=>p J G' H' s R' g
 | ex x ρ'=>exact p
theorem a9b {ξ:XP}{f:List D→Option (List D)}{ws:List W}{G:Hp}{ρ:k9}{σ:St}{Rr:It→Hp→Prop}(t:a0j b7D B ξ G ρ (fun ρ=>match R9 ws ρ with | some ds=>(f ds).map (R'.ok · ρ) | none=>none) σ Rr):∃ ds es,R9 ws ρ=some ds∧f ds=some es∧∀ J G' H',i6 G G'→RS B G' H' σ ρ→Gives B.K G' J es→Rr J H':=by
 refine c6 (t) fun r e p=>?_
 cases hx:R9 ws ρ with
 | none=>simp only [hx] at e; cases e
 | some ds=>
  simp only [hx] at e
  cases hf:f ds with
  | none=>rw [hf] at e; cases e
  | some es=>
   rw [hf] at e
   cases e
   exact ⟨ds,es,rfl,hf,p⟩
theorem U5 (hm:X.mg "range"=none) (ha:PDA X B [a] mr) (hg:autoParam (Gl X "range") m6._auto_1) (hs:autoParam (starEach [a] X.env=[(false,eval a X.env)]) m6._auto_1):PDI X B tg (.Call (.Name "range" p) [a] [] pos) (a0O ints1 mr):=.mk fun ξ=>
 (a92 (X:=rz X ξ) hg hm (ha.ap ξ) hs).imp fun σ H Rr t=>by
  refine l6 (a81 t) fun G ρ R t=>?_
  refine (TD.bind (rel:=K7) R t).mono fun vs H1 Z0=>n6 (Z0) fun G1 ρ1 ws s1 R1 q1 t2=>?_
  refine i9 (a9b t2) fun ds es e1 e2 p=>?_
  have h:=a0l R1 q1 e1
  match ds,e2 with
  | [.int n],e2=>
   refine f9 (z7 e2) fun z e2=>?_
   cases e2
   refine c6 (F0 h) fun x Z1 hx=>?_; subst Z1
   exact ⟨n,by rw [hx.int],z.1,z.2,p _ G1 H1 (i6.refl _) R1 (a3e 0 n.toNat)⟩
theorem a7S (hm:X.mg "range"=none) (ha:PDA X B [a,b] mr) (hg:autoParam (Gl X "range") m6._auto_1) (hs:autoParam (starEach [a,b] X.env=[(false,eval a X.env),(false,eval b X.env)]) m6._auto_1) (hs2:autoParam (starEach [b] X.env=[(false,eval b X.env)]) m6._auto_1):PDI X B tg (.Call (.Name "range" p) [a,b] [] pos) (a0O ints2 mr):=.mk fun ξ=>
 (b0L (X:=rz X ξ) hg hm (ha.ap ξ) hs hs2).imp fun σ H Rr t=>by
  refine l6 (a81 t) fun G ρ R t=>?_
  refine (TD.bind (rel:=K7) R t).mono fun vs H1 Z0=>n6 (Z0) fun G1 ρ1 ws s1 R1 q1 t2=>?_
  refine i9 (a9b t2) fun ds es e1 e2 p=>?_
  have h:=a0l R1 q1 e1
  match ds,e2 with
  | [.int i,.int j],e2=>
   refine f9 (z7 e2) fun z e2=>?_
   cases e2
   refine i9 (b1J h) fun x y Z1 hx hy=>?_; subst Z1
   exact ⟨i,j,by rw [hx.int,hy.int],z,p _ G1 H1 (i6.refl _) R1 (a3e i (j - i).toNat)⟩
end
noncomputable abbrev FT:=D→k9→Option k9
noncomputable def TDG (B:Bs)(f:FT):TG:=fun v σ H Rr=>∃ G ρ d ρ',RS B G H σ ρ∧Rep B.K G v d∧f d ρ=some ρ'∧∀ σ' G' H',i6 G G'→RS B G' H' σ' ρ'→Rr σ' H'
structure PDG (X:Cx) (B:Bs) (tg:Expr) (f:FT):Prop where
 ap:∀ ξ,PG (rz X ξ) tg (TDG B f)
theorem _root_.L2.PG.imp {X:Cx}{tg:Expr}{t t':TG}(h:PG X tg t)(i:∀ v σ H R,t' v σ H R→t v σ H R):PG X tg t':=fun pins s σ H v u Q I r q=>h pins s σ H v u Q I r (i v σ H _ q)
noncomputable def N5 (i:Nat):FT:=fun d ρ=>if i < ρ.length then some (ρ.set i (some (.sh d))) else none
section
variable {X:Cx}{B:Bs}{tg e:Expr}{pos:Pos}
theorem a0s {i:Nat}{x:Str}(hN:X.N.Nodup)(hi:autoParam (X.N[i]?=some x) m6._auto_1)(hx:autoParam (Loc X.env.scope x) au0._auto_1)(hf:autoParam (X.fn x=true∨X.env.scope.names.lookup x=some .local) au0._auto_1):PDG X B (.Name x pos) (N5 i):=.mk fun ξ=>
 (a6B (X:=rz X ξ) hN hi hx hf).imp fun v σ H Rr t=>by
  refine a3t (t) fun G ρ d ρ' R h e p=>?_
  unfold N5 at e
  split at e
  ·cases e
   exact p _ G H (i6.refl _) (R.a9M ‹_› h)
  ·cases e
end
noncomputable def forL (tg:FT)(b:SM):List D→SM
 | []=>fun ρ=>some (.nx ρ)
 | d::ds=>fun ρ=>match tg d ρ with
  | none=>none
  | some ρ1=>match b ρ1 with
   | some (.nx ρ2)=>forL tg b ds ρ2
   | some (.ct ρ2)=>forL tg b ds ρ2
   | some (.bk ρ2)=>some (.nx ρ2)
   | r=>r
noncomputable def a2Q (mi:M (List D))(tg:FT)(b:SM):SM:=C3 mi fun ds=>forL tg b ds
theorem a4T {X:Cx}{ξ:XP}:PassesOwn (model X.prog X.w) X.A X.env (XE X ξ):=by
 rintro e s' ⟨x,pins,σ,H,I,⟨a,cls,dct,rfl,ix,oa,fl,F⟩,q⟩
 have I0:Inv X [] σ H s':=I.a2s fun p hp=>absurd hp (by simp)
 refine noted I0 F oa fl fun h' T I2 t oT=>?_
 refine b5v (id t) fun oe vs oT' ts he hc hdc hd h1 r=>?_
 refine wpAny_bind (wpAny_field he hd h1 ?_)
 rw [if_neg (show ¬ ((Value.ref T == Value.none)=true) from by simp)]
 rw [F.fr]
 exact marked (some X.env.locals) I2 F t oT fun h3 I3 t3=>⟨x,[],σ,H,I3,⟨a,cls,dct,rfl,ix,oa,.inr ⟨T,_,t3,oT,.inr rfl⟩,F⟩,q⟩
section
variable {X:Cx}{B:Bs}{tg iter:Expr}{body:List Stmt}{mi:M (List D)}{f:FT}{mb:SM}{pos:Pos}
theorem a1X (hi:PDI X B tg iter mi)(hg:PDG X B tg f)(hb:a2P X B body mb)(hc:autoParam (X.calm=true) m6._auto_1)(hs:autoParam (∀ x,foldedSetIterable iter X.env x=pure x) au4._auto_1):PSD X B (.For tg iter body [] pos) (a2Q mi f mb):=.mk fun ξ=>
 (b6t (X:=rz X ξ) a4T hc (hi.ap ξ) (hg.ap ξ) (hb.ap ξ) hs).imp fun Dn σ H t=>by
  refine l6 (t) fun G ρ R Z9=>c6 Z9 fun r e p=>?_
  unfold a2Q C3 at e
  cases hm:mi ρ with
  | none=>rw [hm] at e; cases e
  | some r1=>
   rw [hm] at e
   cases r1 with
   | ex x ρ1=>
    cases e
    exact ⟨G,ρ,_,R,hm,fun G' H' s R'=>p σ G' H' s R'⟩
   | ok ds ρ1=>
    refine ⟨G,ρ,_,R,hm,fun J Gs H1 s1 R1 gv=>?_⟩
    refine ⟨fun i m σ H=>∃ G ρ r,m=ds.length - i∧i≤ds.length∧i6 Gs G∧RS B G H σ ρ∧forL f mb (ds.drop i) ρ=some r∧a3p B ξ G Dn r,⟨ds.length,Gs,ρ1,r,by simp,Nat.zero_le _,i6.refl _,R1,by simpa using e,p.same s1⟩,?_⟩
    rintro i m σ2 H2 ⟨G2,ρ2,r2,rfl,hle,s2,R2,e2,p2⟩
    by_cases hlt:i < ds.length
    ·have ed:ds.drop i=ds[i]::ds.drop (i + 1):=List.drop_eq_getElem_cons hlt
     rw [ed] at e2
     unfold forL at e2
     cases ht:f ds[i] ρ2 with
     | none=>rw [ht] at e2; cases e2
     | some ρ3=>
      rw [ht] at e2
      refine .inr ⟨gv.go G2 H2 i s2 R2.gH hlt,fun σ' H'=>∃ G' ρ' r',i6 Gs G'∧RS B G' H' σ' ρ'∧forL f mb (ds.drop (i + 1)) ρ'=some r'∧a3p B ξ G' Dn r',fun σ' H' Z9=>n6 Z9 fun G' ρ' r' a1 a2 a3 a4=>⟨ds.length - (i + 1),by omega,G',ρ',r',rfl,hlt,a1,a2,a3,a4⟩,fun x H' y=>?_⟩
      refine f9 (gv.yld G2 H2 H' i x s2 R2.gH hlt y) fun Z1 Z9=>c6 Z9 fun d hd rx=>?_; subst Z1
      have ed2:d=ds[i]:=by
       rw [List.getElem?_eq_getElem hlt] at hd
       exact (Option.some.inj hd).symm
      subst ed2
      refine ⟨G2,ρ2,_,ρ3,R2,rx,ht,fun σ3 G3 H3 s3 R3=>?_⟩
      cases hbr:mb ρ3 with
      | none=>simp only [hbr] at e2; cases e2
      | some rb=>
       simp only [hbr] at e2
       refine ⟨G3,ρ3,R3,rb,hbr,?_⟩
       cases rb with
       | nx ρ4=>exact fun σ4 G4 H4 s4 R4=>⟨G4,ρ4,r2,(s2.trans s3).trans s4,R4,e2,p2.same (s3.trans s4)⟩
       | ct ρ4=>exact fun σ4 G4 H4 s4 R4=>⟨G4,ρ4,r2,(s2.trans s3).trans s4,R4,e2,p2.same (s3.trans s4)⟩
       | bk ρ4=>
        cases e2
        exact fun σ4 G4 H4 s4 R4=>p2 σ4 G4 H4 (s3.trans s4) R4
       | rt w ρ4=>
        cases e2
        exact fun v σ4 G4 H4 s4 R4 q4=>p2 v σ4 G4 H4 (s3.trans s4) R4 q4
       | ex x ρ4=>
        cases e2
        exact fun σ4 G4 H4 s4 R4=>p2 σ4 G4 H4 (s3.trans s4) R4
    ·have ei:i=ds.length:=by omega
     subst ei
     rw [List.drop_length] at e2
     cases e2
     exact .inl ⟨gv.stop G2 H2 s2 R2.gH,p2 σ2 G2 H2 (i6.refl _) R2⟩
end
noncomputable def B4 (c:M Bool)(b:SM):Nat→SM
 | 0=>fun _=>none
 | n + 1=>C3 c fun k=>if k=true then (fun ρ=>match b ρ with
   | some (.nx ρ2)=>B4 c b n ρ2
   | some (.ct ρ2)=>B4 c b n ρ2
   | some (.bk ρ2)=>some (.nx ρ2)
   | r=>r) else nxS
section
variable {X:Cx}{B:Bs}{c:Expr}{body:List Stmt}{mc:M Bool}{mb:SM}{pos:Pos}
theorem a53 (n:Nat)(hc:PDT X B c mc)(hb:a2P X B body mb):PSD X B (.While c body [] pos) (B4 mc mb n):=.mk fun ξ=>
 (b2A (X:=rz X ξ) a4T (hc.ap ξ) (hb.ap ξ)).imp fun Dn σ H t=>by
  refine l6 (t) fun G ρ R Z9=>c6 Z9 fun r e p=>?_
  refine ⟨fun m σ H=>∃ G ρ r,RS B G H σ ρ∧B4 mc mb m ρ=some r∧a3p B ξ G Dn r,⟨n,G,ρ,r,R,e,p⟩,?_⟩
  rintro m σ2 H2 ⟨G2,ρ2,r2,R2,e2,p2⟩
  cases m with
  | zero=>cases e2
  | succ m=>
   unfold B4 at e2
   refine (SD.step (rel:=a0L) R2 ⟨r2,e2,p2⟩).mono fun k H3 Z0=>n6 (Z0) fun G3 ρ3 k' s3 R3 q3 Z9=>c6 Z9 fun r3 e3 p3=>?_
   cases (show k=k' from q3)
   cases k with
   | false=>
    cases e3
    exact p3 σ2 G3 H3 (i6.refl _) R3
   | true=>
    rw [if_pos rfl] at e3
    refine ⟨fun σ' H'=>∃ G' ρ' r',RS B G' H' σ' ρ'∧B4 mc mb m ρ'=some r'∧a3p B ξ G' Dn r',fun σ' H' Z9=>E5 Z9 fun G' ρ' r' a1 a2 a3=>⟨m,Nat.lt_succ_self _,G',ρ',r',a1,a2,a3⟩,?_⟩
    cases hbr:mb ρ3 with
    | none=>simp only [hbr] at e3; cases e3
    | some rb=>
     simp only [hbr] at e3
     refine ⟨G3,ρ3,R3,rb,hbr,?_⟩
     cases rb with
     | nx ρ4=>exact fun σ4 G4 H4 s4 R4=>⟨G4,ρ4,r3,R4,e3,p3.same s4⟩
     | ct ρ4=>exact fun σ4 G4 H4 s4 R4=>⟨G4,ρ4,r3,R4,e3,p3.same s4⟩
     | bk ρ4=>cases e3; exact fun σ4 G4 H4 s4 R4=>p3 σ4 G4 H4 s4 R4
     | rt w ρ4=>cases e3; exact fun v σ4 G4 H4 s4 R4 q4=>p3 v σ4 G4 H4 s4 R4 q4
     | ex x ρ4=>cases e3; exact fun σ4 G4 H4 s4 R4=>p3 σ4 G4 H4 s4 R4
end
noncomputable def tyD (T:String):D→Bool
 | .str _=>T == "str"
 | .lst _=>T == "list"
 | .dct _=>T == "dict"
 | _=>false
noncomputable def chk (T:String)(w:W):M Unit:=fun ρ=>match getD w ρ with
 | some d=>if tyD T d=true then some (.ok () ρ) else none
 | none=>none
theorem a20 {T:String}{w:W}{ρ:k9}{r:R' Unit}(h:chk T w ρ=some r):r=.ok () ρ∧∃ d,getD w ρ=some d∧tyD T d=true:=by
 unfold chk at h
 split at h
 ·rename_i d hd
  split at h
  ·cases h
   exact ⟨rfl,d,hd,‹_›⟩
  ·cases h
 ·cases h
theorem b25 {B:Bs}{G H:Hp}{σ:St}{ρ:k9}{x:V}{d:D}{T:String}(R:RS B G H σ ρ)(h:L0 B.K G H x d)(t:tyD T d=true)(hT:autoParam (T≠"dict") Y0._auto_1):tyV B.K T x H:=by
 cases d with
 | str cs=>rw [h.str]; exact eq_of_beq t
 | lst ds=>
  refine i9 (h.lst R.gH) fun p xs Z1 h1 r1=>?_; subst Z1
  exact .inl ⟨eq_of_beq t,xs,h1⟩
 | dct es=>
  exact absurd (eq_of_beq t) hT
 | _=>cases t
theorem a2x {i:Nat}{w:W}{ρ ρ':k9}(h:d8 i ρ=some (.ok w ρ')):w=.slot i∧ρ'=ρ:=by
 unfold d8 at h
 split at h
 ·cases h; exact ⟨rfl,rfl⟩
 ·cases h
noncomputable def a2e (i:Nat)(d:D):M W:=fun ρ=>match ρ[i]? with
 | some (some (.ow l (.lst ds)))=>grd (small ds.length) (some (.ok (.val .w6) (ρ.set i (some (.ow l (.lst (ds++[d])))))))
 | _=>none
noncomputable def O5 (i:Nat)(m:M (List W)):M W:=M.bind (d8 i) fun x=>M.bind (chk "list" x) fun _=>M.bind m fun ws=>match ws with
 | [w]=>M.bind (D3 w) (a2e i)
 | _=>fun _=>none
section
variable {X:Cx}{B:Bs}{o e:Expr}{es:List Expr}{mr:M (List W)}{apos cpos opos:Pos}{x:Str}
theorem slot_of {G H:Hp}{σ:St}{ρ:k9}{i:Nat}{l:Bool}{d:D}(R:RS B G H σ ρ)(h:ρ[i]?=some (some (.ow l d))){v:V}(hv:σ[i]?=some (some v)):∃ p,v=.ref p∧G p=none∧A5 B.K G H p d:=by
 refine x6 (R.ow i l d h) fun p q1 q2 q3 q4 q5=>?_
 rw [hv] at q1
 cases q1
 exact ⟨p,rfl,q2,q5⟩
theorem a03 (i:Nat)(ho:PD X B o (d8 i))(ha:PDA X B [e] mr)
  (hbase:autoParam (attributeBase o "append" X.env (eval o X.env)=eval o X.env) m6._auto_1)
  (hfew:autoParam (((backTo cpos (starEach [e] X.env)).all (fun x=>!x.1) && (backToKw cpos (keywordEach [] X.env)).all (fun x=>x.1.isSome)
   && decide (([e]:List Expr).length + ([]:List Keyword).length + (if ([]:List Keyword).isEmpty then 0 else 1) < 30))=true) m6._auto_1)
  (hline:autoParam ((apos.endLine == cpos.line)=true) m6._auto_1) (hs:autoParam (starEach [e] X.env=(false,eval e X.env)::starEach [] X.env) m6._auto_1) (hplain:autoParam ((backTo cpos (starEach [] X.env)).any (·.1)=false) m6._auto_1) (hK:autoParam (X.K=B.K) m6._auto_1):
  PD X B (.Call (.Attribute o "append" apos) [e] [] cpos) (O5 i mr):=.mk fun ξ=>
 (b3t (X:=rz X ξ) PySem.F.plainAttrs_list PySem.F.slot_list_append PySem.F.type_list_append b0Z (ho.ap ξ) (ha.ap ξ) hbase hfew hline hs hplain).imp fun σ H Q t=>by
  refine l6 (t) fun G ρ R t=>?_
  refine (TD.b5r (rel:=C1) R t).mono fun x H1 Z0=>Y9 (Z0) fun G1 ρ1 w er s1 R1 q1 t2=>?_
  refine f9 (a2x er) fun Z1 Z2=>?_; subst Z1; subst Z2
  have hv:σ[i]?=some (some x):=q1
  obtain ⟨u,ρ2,e2,t3⟩:=t2.step fun r h=>⟨(),_,(a20 h).1⟩
  refine f9 (a20 e2) fun e3 Z9=>c6 Z9 fun d hd ty=>?_
  cases e3
  refine ⟨by show tyV X.K "list" x H1; rw [hK]; exact b25 R1 (q1.get R1 hd) ty,?_⟩
  refine (TD.bind (rel:=K7) R1 t3).mono fun vs H2 Z0=>n6 (Z0) fun G2 ρ2 ws s2 R2 q2 t4=>?_
  match ws,q2,t4 with
  | [],_,⟨r,er,_⟩=>cases er
  | _::_::_,_,⟨r,er,_⟩=>cases er
  | [w],q2,t4=>
   cases q2 with
   | @cons v _ vs _ h t=>
    cases t
    obtain ⟨dv,ρ3,e4,r,er,p⟩:=t4.step fun r h=>W3 h
    refine j7 (h.1.D3 R2 e4) fun G3 s3 R3 rv=>?_
    unfold a2e at er
    split at er
    ·rename_i l ds hi
     refine f9 (z7 er) fun hz er=>?_
     cases er
     refine j7 (slot_of R3 hi hv) fun pp Z1 g Z9=>c6 Z9 fun xs hx rl=>?_; subst Z1
     refine ⟨pp,xs,v,rfl,rfl,hx,?_,?_⟩
     ·rw [rl.len,sizeLine_eq]; unfold small at hz; omega
     ·exact p .w6 G3 _ s3 (R3.write hi hv ⟨xs++[v],l9,rl.append (.one rv)⟩) .w6
    ·cases er
end
end L3
set_option Elab.async false
set_option linter.all false
set_option maxRecDepth 100000
set_option maxHeartbeats 4000000
namespace L3
open PySem PySem.Spec PyProof.Rows L2
inductive FR where
 | ret (w:W) (fin:List D) | exc (x:Exn) (fin:List D)
inductive P1 (K:PySem.W.Frag) (G H:Hp):List Bool→List V→List D→List Addr→Prop
 | nil:P1 K G H [] [] [] []
 | sh {v:V} {d:D} {ms:List Bool} {vs:List V} {ds:List D} {ps:List Addr} (h:Rep K G v d) (r:P1 K G H ms vs ds ps):P1 K G H (false::ms) (v::vs) (d::ds) ps
 | ln {p:Addr} {d:D} {ms:List Bool} {vs:List V} {ds:List D} {ps:List Addr} (g:G p=none) (o:A5 K G H p d) (n:p∉ps) (r:P1 K G H ms vs ds ps):P1 K G H (true::ms) (.ref p::vs) (d::ds) (p::ps)
noncomputable def minus (H:Hp)(ps:List Addr):Hp:=fun b=>if b∈ps then none else H b
theorem a0g {H:Hp}{ps:List Addr}{b:Addr}(h:b∈ps):minus H ps b=none:=if_pos h
theorem P8 {H:Hp}{ps:List Addr}{b:Addr}(h:b∉ps):minus H ps b=H b:=if_neg h
theorem G9 (H:Hp)(ps:List Addr):i6 (minus H ps) H:=fun b o e=>by
 unfold minus at e
 split at e
 ·cases e
 ·exact e
structure After (K:PySem.W.Frag) (G H:Hp) (ps:List Addr) (G' H':Hp) (fin:List D):Prop where
 keep:i6 (minus H ps) H'
 gg:i6 G G'
 gH:i6 G' H'
 gnew:∀ p o,G' p=some o→G p=some o∨H p=none
 dom:∀ p,H' p=none→H p=none
 lent:Paired (fun p d=>G' p=none∧A5 K G' H' p d) ps fin
noncomputable def a6F (K:PySem.W.Frag)(H G' H':Hp)(v:V):W→Prop
 | .val d=>Rep K G' v d
 | .own d=>∃ p,v=.ref p∧G' p=none∧H p=none∧A5 K G' H' p d
 | .slot _=>False
noncomputable def Q4 (K:PySem.W.Frag)(ms:List Bool)(fm:List D→Option FR):Sp:=fun vs H Q E=>∃ G ds ps r,i6 G H∧P1 K G H ms vs ds ps∧fm ds=some r∧match r with
 | .ret w fin=>∀ v G' H',After K G H ps G' H' fin→a6F K H G' H' v w→Q v H'
 | .exc _ _=>False
theorem Q4.imp {K:PySem.W.Frag}{ms:List Bool}{fm fm':List D→Option FR}(h:∀ ds r,fm ds=some r→fm' ds=some r):∀ vs H Q E,Q4 K ms fm vs H Q E→Q4 K ms fm' vs H Q E:=by
 rintro vs H Q E ⟨G,ds,ps,r,a,b,c,d⟩
 exact ⟨G,ds,ps,r,a,b,h ds r c,d⟩
theorem P1.len {K:PySem.W.Frag}{G H:Hp}:∀ {ms:List Bool} {vs:List V} {ds:List D} {ps:List Addr},P1 K G H ms vs ds ps→vs.length=ms.length∧ds.length=ms.length
 | _,_,_,_,.nil=>⟨rfl,rfl⟩
 | _,_,_,_,.sh _ r=>by refine f9 (r.len) fun a b=>?_; exact ⟨by simp [a],by simp [b]⟩
 | _,_,_,_,.ln _ _ _ r=>by refine f9 (r.len) fun a b=>?_; exact ⟨by simp [a],by simp [b]⟩
noncomputable def a3P (m:Bool)(d:D):Option C:=some (if m=true then .ow true d else .sh d)
noncomputable def cells:List Bool→List D→k9
 | m::ms,d::ds=>a3P m d::cells ms ds
 | _,_=>[]
noncomputable def A1 (n:Nat)(ms:List Bool)(ds:List D):k9:=cells ms ds++List.replicate (n - ds.length) none
noncomputable def Y4:List Bool→k9→Option (List D)
 | [],_=>some []
 | false::ms,_::ρ=>Y4 ms ρ
 | true::ms,some (.ow true d)::ρ=>(Y4 ms ρ).map (d::·)
 | _,_=>none
noncomputable def a8u (ms:List Bool):SR→Option FR
 | .nx ρ=>(Y4 ms ρ).map (FR.ret (.val .w6))
 | .rt (.slot _) _=>none
 | .rt w ρ=>(Y4 ms ρ).map (FR.ret w)
 | .ex x ρ=>(Y4 ms ρ).map (FR.exc x)
 | _=>none
noncomputable def z9 (m:SM)(n:Nat)(ms:List Bool)(ds:List D):Option FR:=(m (A1 n ms ds)).bind (a8u ms)
noncomputable def M6:List Bool→List Addr→Nat→Option Addr
 | [],_,_=>none
 | false::_,_,0=>none
 | false::ms,ps,i + 1=>M6 ms ps i
 | true::_,p::_,0=>some p
 | true::ms,_::ps,i + 1=>M6 ms ps i
 | true::_,[],_=>none
section
variable {K:PySem.W.Frag}{G H:Hp}
theorem a5I:∀ {ms:List Bool} {ds:List D},ds.length=ms.length→(cells ms ds).length=ms.length
 | [],[],_=>rfl
 | [],_::_,h=>by simp at h
 | _::_,[],h=>by simp at h
 | m::ms,d::ds,h=>by
  show (cells ms ds).length + 1=ms.length + 1
  rw [a5I (by simpa using h)]
theorem N9:∀ {ms:List Bool} {vs:List V} {ds:List D} {ps:List Addr} {i:Nat} {c:C},P1 K G H ms vs ds ps→(cells ms ds)[i]?=some (some c)→
  ∃ v,vs[i]?=some v∧((∃ d,c=.sh d∧Rep K G v d)∨∃ p d,c=.ow true d∧v=.ref p∧p∈ps∧M6 ms ps i=some p∧G p=none∧A5 K G H p d)
 | _,_,_,_,i,c,.nil,e=>by simp [cells] at e
 | _,_,_,_,0,c,.sh h r,e=>by
  simp [cells,a3P] at e
  subst e
  exact ⟨_,rfl,.inl ⟨_,rfl,h⟩⟩
 | _,_,_,_,i + 1,c,.sh h r,e=>by
  refine c6 (N9 (i:=i) r (by simpa [cells] using e)) fun v e1 h1=>?_
  exact ⟨v,by simpa using e1,h1⟩
 | _,_,_,_,0,c,.ln g o n r,e=>by
  simp [cells,a3P] at e
  subst e
  exact ⟨_,rfl,.inr ⟨_,_,rfl,rfl,List.mem_cons_self,rfl,g,o⟩⟩
 | _,_,_,_,i + 1,c,.ln g o n r,e=>by
  refine c6 (N9 (i:=i) r (by simpa [cells] using e)) fun v e1 h1=>?_
  refine ⟨v,by simpa using e1,?_⟩
  refine Or.elim (h1) (fun h1=>?_) fun Z1=>a9s (Z1) fun p d a b c1 c2 d1 e2=>?_
  ·exact .inl h1
  ·exact .inr ⟨p,d,a,b,List.mem_cons_of_mem _ c1,c2,d1,e2⟩
theorem b3c {ms:List Bool}{vs:List V}{ds:List D}{ps:List Addr}(r:P1 K G H ms vs ds ps):∀ {i j:Nat} {p:Addr},M6 ms ps i=some p→M6 ms ps j=some p→i=j:=by
 have mem:∀ {ms:List Bool} {ps:List Addr} {i:Nat} {p:Addr},M6 ms ps i=some p→p∈ps:=by
  intro ms
  induction ms with
  | nil=>intro ps i p h; cases h
  | cons m ms ih=>
   intro ps i p h
   cases m with
   | false=>
    cases i with
    | zero=>cases h
    | succ i=>exact ih (i:=i) h
   | true=>
    cases ps with
    | nil=>cases i <;> cases h
    | cons q ps=>
     cases i with
     | zero=>cases h; exact List.mem_cons_self
     | succ i=>exact List.mem_cons_of_mem _ (ih (i:=i) h)
 induction r with
 | nil=>intro i j p h; cases h
 | sh h r ih=>
  intro i j p a b
  cases i with
  | zero=>cases a
  | succ i=>
   cases j with
   | zero=>cases b
   | succ j=>rw [ih (i:=i) (j:=j) a b]
 | ln g o n r ih=>
  intro i j p a b
  cases i with
  | zero=>
   cases a
   cases j with
   | zero=>rfl
   | succ j=>exact absurd (mem (i:=j) b) n
  | succ i=>
   cases j with
   | zero=>cases b; exact absurd (mem (i:=i) a) n
   | succ j=>rw [ih (i:=i) (j:=j) a b]
theorem N1 {N:List Str}{vs:List V}{i:Nat}{v:V}(h:vs[i]?=some v):(start N vs)[i]?=some (some v):=by
 unfold L2.start
 have hi:i < vs.length:=(List.getElem?_eq_some_iff.mp h).1
 rw [List.getElem?_append_left (by simpa using hi),List.getElem?_map,h]
 rfl
theorem I8 {n:Nat}{ms:List Bool}{ds:List D}{i:Nat}{c:C}(h:(A1 n ms ds)[i]?=some (some c)):(cells ms ds)[i]?=some (some c):=by
 unfold A1 at h
 by_cases hi:i < (cells ms ds).length
 ·rw [List.getElem?_append_left hi] at h
  exact h
 ·rw [List.getElem?_append_right (by omega),List.getElem?_replicate] at h
  split at h <;> cases h
theorem a4o {N:List Str}{ms:List Bool}{vs:List V}{ds:List D}{ps:List Addr}(g:i6 G H)(r:P1 K G H ms vs ds ps)(hl:vs.length≤N.length):
  RS ⟨K,H,minus H ps,G,M6 ms ps,none⟩ G H (start N vs) (A1 N.length ms ds):=by
 refine f9 (r.len) fun l1 l2=>?_
 refine ⟨G9 H ps,G9 H ps,i6.refl _,g,fun p o e=>.inl e,fun p e=>e,?_,fun i d e=>?_,fun i l d e=>?_,fun i j l d k e p a b=>?_,fun i es e=>?_,fun i l fds e=>?_,fun i fds e=>?_⟩
 ·unfold L2.start A1
  rw [List.length_append,List.length_append,List.length_map,List.length_replicate,List.length_replicate,a5I l2]
  omega
 ·refine c6 (N9 r (I8 e)) fun v e1 h1=>?_
  refine Or.elim (h1) (fun Z0=>c6 (Z0) fun d' q h=>?_) fun Z1=>l6 (Z1) fun p d' q _=>?_
  ·cases q
   exact ⟨v,N1 e1,h⟩
  ·cases q
 ·refine c6 (N9 r (I8 e)) fun v e1 h1=>?_
  rcases h1 with ⟨d',q,h⟩ | ⟨p,d',q,rfl,m,la,gp,o⟩
  ·cases q
  ·cases q
   exact ⟨p,N1 e1,gp,a0g m,.inl la,o⟩
 ·refine c6 (N9 r (I8 a)) fun v e1 h1=>?_
  refine c6 (N9 r (I8 b)) fun v2 e2 h2=>?_
  rcases h1 with ⟨d',q,h⟩ | ⟨p1,d',q,rfl,m,la,gp,o⟩
  ·cases q
  rcases h2 with ⟨d2,q2,h⟩ | ⟨p2,d2,q2,rfl,m2,la2,gp2,o2⟩
  ·cases q2
  intro x y
  rw [N1 e1] at x
  rw [N1 e2] at y
  cases x
  cases y
  exact b3c r la la2
 ·refine c6 (N9 r (I8 e)) fun v e1 h1=>?_
  rcases h1 with ⟨d',q,h⟩ | ⟨p1,d',q,_⟩ <;> cases q
 ·refine c6 (N9 r (I8 e)) fun v e1 h1=>?_
  rcases h1 with ⟨d',q,h⟩ | ⟨p1,d',q,_⟩ <;> cases q
 ·refine c6 (N9 r (I8 e)) fun v e1 h1=>?_
  rcases h1 with ⟨d',q,h⟩ | ⟨p1,d',q,_⟩ <;> cases q
theorem a1c {B:Bs}{G' H':Hp}{σ:St}{ρ:k9}(hO:∀ i,B.gh i=false)(R:RS B G' H' σ ρ):∀ {ms:List Bool} {vs:List V} {ds:List D} {ps:List Addr} (_:P1 K G H ms vs ds ps) (k:Nat) (ρ':k9) (fin:List D),(∀ i,ρ'[i]?=ρ[k + i]?)→(∀ i,M6 ms ps i=B.L (k + i))→Y4 ms ρ'=some fin→Paired (fun p d=>G' p=none∧A5 B.K G' H' p d) ps fin
 | _,_,_,_,.nil,k,ρ',fin,_,_,e=>by cases e; exact .nil
 | _,_,_,_,.sh h r,k,ρ',fin,hρ,hL,e=>by
  cases ρ' with
  | nil=>cases e
  | cons c ρ'=>
   refine a1c hO R r (k + 1) ρ' fin (fun i=>?_) (fun i=>?_) e
   ·have:=hρ (i + 1)
    rw [List.getElem?_cons_succ] at this
    rw [this]
    congr 1
    omega
   ·have:=hL (i + 1)
    rw [show k + 1 + i=k + (i + 1) by omega,← this]
    rfl
 | _,_,_,_,.ln (p:=p) g o n r,k,ρ',fin,hρ,hL,e=>by
  cases ρ' with
  | nil=>cases e
  | cons c ρ'=>
   match c,e with
   | some (.ow true d),e=>
    refine c6 (Option.map_eq_some_iff.mp e) fun fin' e' Z1=>?_; subst Z1
    refine .cons ?_ (a1c hO R r (k + 1) ρ' fin' (fun i=>?_) (fun i=>?_) e')
    ·have h0:=hρ 0
     refine x6 (R.ow (k + 0) true d h0.symm) fun p' q1 q2 q3 q4 q5=>?_
     have q6:B.L (k + 0)=some p':=by
      refine Or.elim (q4) (fun z=>?_) fun Z1=>f9 (Z1) fun z _=>?_
      ·exact z
      ·rw [hO] at z; cases z
     rw [← hL 0] at q6
     have q7:some p=some p':=q6
     cases q7
     exact ⟨q2,q5⟩
    ·have:=hρ (i + 1)
     rw [List.getElem?_cons_succ] at this
     rw [this]
     congr 1
     omega
    ·have:=hL (i + 1)
     rw [show k + 1 + i=k + (i + 1) by omega,← this]
     rfl
   | none,e=>cases e
   | some (.sh _),e=>cases e
   | some (.ow false _),e=>cases e
   | some (.ob _ _),e=>cases e
   | some (.rd _),e=>cases e
end
theorem _root_.L2.PSs.U6 {X:Cx}{E E':Value→Shared→Prop}{st:List Stmt}{t:TS}(h:PSs (X.Q5 E) st t)(i:∀ e s,E e s→E' e s):PSs (X.Q5 E') st t:=fun pins s σ H D I hw=>
 wpAny_mono (h pins s σ H D (I.N8.Q5 _) hw) (fun _ _ q=>by
  have q1:=q.N8
  cases ‹Flow› with
  | next=>refine l6 (q1) fun σ' H' I q=>?_; exact ⟨σ',H',I.Q5 _,q⟩
  | brk=>refine l6 (q1) fun σ' H' I q=>?_; exact ⟨σ',H',I.Q5 _,q⟩
  | cont=>refine l6 (q1) fun σ' H' I q=>?_; exact ⟨σ',H',I.Q5 _,q⟩
  | ret u=>refine E5 (q1) fun v σ' H' I r q=>?_; exact ⟨v,σ',H',I.Q5 _,r,q⟩) fun e s z=>i e s z
section
variable {P:Program}{w:World}{K:PySem.W.Frag}{mg:Str→Option Value}{base:Heap}
theorem a0h {x:Str}{st:Stmt}{f:Addr}{fd:FuncData}{N ps:List Str}{ms:List Bool}{k:Nat}{m:SM}(F:Fun K x x st f fd)(S:v8 N ps (j9 st))(hm:ms.length=ps.length)
  (hbody:∀ (cdv:Value) (A:Around) (outer:List Env) (s:Shared) (H:Hp) (E:XK) (H0 HK G0:Hp) (L:Nat→Option Addr),K5 k (A.deeper (envOfC x (j9 st) s.heap.objs.size f cdv))→
   a2P (a4C X4 P w K mg base N x (j9 st) f cdv A outer s H E) ⟨K,H0,HK,G0,L,none⟩ (K3 st) m):B7 P w K mg base X4 (k + 1) f fd ps (Q4 K ms (z9 m N.length ms)):=by
 have hpl:ps.length≤N.length:=by have:=congrArg List.length S.pre; rw [List.length_take] at this; omega
 refine F.ok S (fun vs H Q E h=>?_) (fun cdv A outer s H vs Q E hr h=>?_)
 ·refine a0W (h) fun G ds pp r _ a _=>?_
  rw [a.len.1,hm]
 refine a3t (h) fun G ds pp r g a hf q=>?_
 refine ⟨_,((hbody cdv A outer s H E H (minus H pp) G (M6 ms pp) hr).ap fun _ _ _=>False).U6 (fun e s z=>?_),?_⟩
 ·refine a0W (z) fun _ _ _ _ _ _ z=>?_
  exact z
 have R0:=a4o (N:=N) g a (by rw [a.len.1,hm]; exact hpl)
 unfold z9 at hf
 cases hs:m (A1 N.length ms ds) with
 | none=>rw [hs] at hf; cases hf
 | some sr=>
  rw [hs] at hf
  have hf':a8u ms sr=some r:=hf
  refine ⟨G,A1 N.length ms ds,R0,sr,hs,?_⟩
  have fin:∀ {ρ':k9} {σ':St} {G' H':Hp} {fins:List D},Y4 ms ρ'=some fins→RS ⟨K,H,minus H pp,G,M6 ms pp,none⟩ G' H' σ' ρ'→After K G H pp G' H' fins:=fun {ρ' σ' G' H' fins} e R'=>
   ⟨R'.keep,R'.g0,R'.gH,R'.gnew,R'.dom,a1c (fun _=>rfl) R' a 0 ρ' fins (fun i=>by rw [Nat.zero_add]) (fun i=>by rw [Nat.zero_add]) e⟩
  cases sr with
  | nx ρ'=>
   refine c6 (Option.map_eq_some_iff.mp hf') fun fins e Z1=>?_; subst Z1
   exact fun σ' G' H' s' R'=>q .w6 G' H' (fin e R') .w6
  | rt w' ρ'=>
   cases w' with
   | slot i=>cases hf'
   | val d=>
    refine c6 (Option.map_eq_some_iff.mp hf') fun fins e Z1=>?_; subst Z1
    exact fun v σ' G' H' s' R' rw'=>q v G' H' (fin e R') rw'
   | own d=>
    refine c6 (Option.map_eq_some_iff.mp hf') fun fins e Z1=>?_; subst Z1
    exact fun v σ' G' H' s' R' rw'=>q v G' H' (fin e R') (let ⟨p,a1,a2,a3,a4,_⟩:=rw'; ⟨p,a1,a2,a3,a4⟩)
  | ex x ρ'=>
   refine c6 (Option.map_eq_some_iff.mp hf') fun fins e Z1=>?_; subst Z1
   exact q.elim
  | bk ρ'=>cases hf'
  | ct ρ'=>cases hf'
theorem hu8 {A:Around}{k:Nat}(hr:K5 k A):A.units + 8 < cLine:=by have:=hr.units; omega
theorem b3M {K:PySem.W.Frag}{fm:List D→Option FR}(h:∀ ns:List Int,ns.length≤63→fm [.lst (ns.map D.int)]=some (.ret (.val (.bl true)) [])):∀ vs H Q E,b2I K vs H Q E→Q4 K [false] fm vs H Q E:=by
 rintro vs H Q E ⟨a,ns,rfl,hS,hl,q⟩
 refine ⟨H,[.lst (ns.map D.int)],[],_,i6.refl _,.sh (.lst hS (t6.a3L (K:=K) (G:=H) ns).len (t6.a3L (K:=K) (G:=H) ns).get) .nil,h ns hl,fun v G' H' _ r=>?_⟩
 cases (show Rep K G' v (.bl true) from r)
 exact q H'
end
end L3
set_option Elab.async false
set_option linter.all false
set_option maxRecDepth 100000
set_option maxHeartbeats 4000000
namespace L3
open PySem PySem.Spec PyProof.Rows L2
noncomputable def a2r:Nat→D→Bool
 | _,.w6=>true
 | _,.bl _=>true
 | _,.int _=>true
 | _,.str _=>true
 | _,.ty _=>true
 | n + 1,.tup ds=>ds.all (a2r n)
 | _,_=>false
noncomputable abbrev Q6 (d:D):Bool:=a2r 6 d
noncomputable def a5y:W→Bool
 | .val d=>Q6 d
 | .own (.lst ds)=>ds.all Q6
 | .own (.dct es)=>es.all fun e=>Q6 e.2
 | _=>false
noncomputable def a0d:D→Bool
 | .lst ds=>ds.all Q6
 | .dct es=>es.all fun e=>Q6 e.2
 | _=>false
noncomputable def a8U:Option HO→Prop
 | some (.lst _)=>True
 | some (.dK _)=>True
 | _=>False
section
variable {K:PySem.W.Frag}{G H:Hp}{bs:List Addr}
theorem b0W {a:Addr}{xs:List V}(hb:∀ b∈bs,a8U (G b))(h:Y8 K G a xs):Y8 K (minus G bs) a xs:=by
 rcases h with (h | ⟨o,h⟩) | h
 ·refine .inl (.inl ?_)
  rw [P8 fun m=>?_]
  ·exact h
  ·have:=hb a m; rw [h] at this; exact this
 ·refine .inl (.inr ⟨o,?_⟩)
  rw [P8 fun m=>?_]
  ·exact h
  ·have:=hb a m; rw [h] at this; exact this
 ·exact .inr h
theorem Rep.minus:∀ (n:Nat) {v:V} {d:D},(∀ b∈bs,a8U (G b))→a2r n d=true→Rep K G v d→Rep K (minus G bs) v d:=by
 intro n
 induction n with
 | zero=>
  intro v d hb hf h
  cases h with
  | w6=>exact .w6
  | bl b=>exact .bl b
  | int b=>exact .int b
  | str b=>exact .str b
  | ty b=>exact .ty b
  | tup _ _ _=>cases hf
  | lst _ _ _=>cases hf
  | dct _ _ _=>cases hf
 | succ n ih=>
  intro v d hb hf h
  cases h with
  | w6=>exact .w6
  | bl b=>exact .bl b
  | int b=>exact .int b
  | str b=>exact .str b
  | ty b=>exact .ty b
  | @tup a xs ds h l r=>
   have hf':=List.all_eq_true.mp (show ds.all (a2r n)=true from hf)
   exact .tup (b0W hb h) l fun j x d a b=>ih hb (hf' d (List.mem_of_getElem? b)) (r j x d a b)
  | lst _ _ _=>cases hf
  | dct _ _ _=>cases hf
theorem t6.minus {xs:List V}{ds:List D}(hb:∀ b∈bs,a8U (G b))(hf:ds.all Q6=true)(h:t6 K G xs ds):t6 K (minus G bs) xs ds:=
 ⟨h.len,fun j x d a b=>Rep.minus 6 hb (List.all_eq_true.mp hf d (List.mem_of_getElem? b)) (h.get j x d a b)⟩
theorem n5.minus {xs:List (Key×V)}{ds:List (Key×D)}(hb:∀ b∈bs,a8U (G b))(hf:(ds.all fun e=>Q6 e.2)=true)(h:n5 K G xs ds):n5 K (minus G bs) xs ds:=
 ⟨h.keys,fun j x d a b=>Rep.minus 6 hb (List.all_eq_true.mp hf d (List.mem_of_getElem? b)) (h.get j x d a b)⟩
theorem A5.minus {p:Addr}{d:D}(hb:∀ b∈bs,a8U (G b))(hf:a0d d=true)(h:A5 K G H p d):A5 K (minus G bs) H p d:=by
 cases d with
 | lst ds=>refine c6 (h) fun xs e r=>?_; exact ⟨xs,e,r.minus hb hf⟩
 | dct es=>refine c6 (h) fun xs e r=>?_; exact ⟨xs,e,r.minus hb hf⟩
 | _=>exact (show False from h).elim
end
noncomputable def K9:List Bool→List W→k9→Option (List D)
 | [],[],_=>some []
 | false::ms,w::ws,ρ=>match getD w ρ,K9 ms ws ρ with
  | some d,some ds=>some (d::ds)
  | _,_=>none
 | true::ms,.slot i::ws,ρ=>match ρ[i]?,K9 ms ws ρ with
  | some (some (.ow _ d)),some ds=>some (d::ds)
  | _,_=>none
 | _,_,_=>none
noncomputable def F1:List Bool→List W→List Nat
 | true::ms,.slot i::ws=>i::F1 ms ws
 | _::ms,_::ws=>F1 ms ws
 | _,_=>[]
noncomputable def a0i (ρ:k9):List Bool→List W→List Nat
 | false::ms,.slot i::ws=>match ρ[i]? with
  | some (some (.ow _ _))=>i::a0i ρ ms ws
  | _=>a0i ρ ms ws
 | _::ms,_::ws=>a0i ρ ms ws
 | _,_=>[]
noncomputable def a85:List Nat→List D→k9→Option k9
 | [],[],ρ=>some ρ
 | i::is,d::ds,ρ=>match ρ[i]? with
  | some (some (.ow l _))=>a85 is ds (ρ.set i (some (.ow l d)))
  | _=>none
 | _,_,_=>none
noncomputable def a1M:List Nat→k9→Option k9
 | [],ρ=>some ρ
 | i::is,ρ=>match ρ[i]? with
  | some (some (.ow false d))=>a1M is (ρ.set i (some (.sh d)))
  | some (some (.sh _))=>a1M is ρ
  | _=>none
noncomputable def a6t (ls bs:List Nat):Bool:=decide ls.Nodup && ls.all fun i=>!bs.contains i
noncomputable def a9N (ms:List Bool)(fm:List D→Option FR)(ws:List W):M W:=fun ρ=>match K9 ms ws ρ with
 | none=>none
 | some ds=>if a6t (F1 ms ws) (a0i ρ ms ws)=true then match fm ds with
  | some (.ret w fin)=>match a85 (F1 ms ws) fin ρ with
   | none=>none
   | some ρ1=>if (a5y w && fin.all a0d)=true then some (.ok w ρ1) else (a1M (a0i ρ ms ws) ρ1).map (R'.ok w ·)
  | _=>none
  else none
noncomputable def w5 (ms:List Bool)(fm:List D→Option FR)(m:M (List W)):M W:=M.bind m fun ws=>a9N ms fm ws
noncomputable def m7 (σ:St)(is:List Nat):List Addr:=is.filterMap fun i=>match σ[i]? with
 | some (some (V.ref p))=>some p
 | _=>none
section
variable {B:Bs}{G H:Hp}{σ:St}{ρ:k9}
theorem F2 {is:List Nat}{p:Addr}:p∈m7 σ is↔∃ i∈is,σ[i]?=some (some (.ref p)):=by
 unfold m7
 rw [List.mem_filterMap]
 constructor
 ·rintro ⟨i,hi,e⟩
  refine ⟨i,hi,?_⟩
  split at e
  ·cases e; assumption
  ·cases e
 ·rintro ⟨i,hi,e⟩
  exact ⟨i,hi,by rw [e]⟩
noncomputable def plus (G H:Hp)(bs:List Addr):Hp:=fun b=>if b∈bs then H b else G b
theorem S7 {bs:List Addr}{b:Addr}(h:b∈bs):plus G H bs b=H b:=if_pos h
theorem O4 {bs:List Addr}{b:Addr}(h:b∉bs):plus G H bs b=G b:=if_neg h
theorem a1j:∀ {ms:List Bool} {ws:List W} {i:Nat},i∈a0i ρ ms ws→∃ l d,ρ[i]?=some (some (.ow l d))
 | [],[],i,h=>by cases h
 | [],_::_,i,h=>by cases h
 | true::_,[],i,h=>by cases h
 | false::_,[],i,h=>by cases h
 | true::ms,w::ws,i,h=>by
  have h':i∈a0i ρ ms ws:=by cases w <;> exact h
  exact a1j h'
 | false::ms,.val _::ws,i,h=>a1j (ms:=ms) (ws:=ws) h
 | false::ms,.own _::ws,i,h=>a1j (ms:=ms) (ws:=ws) h
 | false::ms,.slot j::ws,i,h=>by
  unfold a0i at h
  split at h
  ·rename_i l d hj
   rcases List.mem_cons.mp h with rfl | h
   ·exact ⟨l,d,hj⟩
   ·exact a1j h
  ·exact a1j h
theorem args_call (R:RS B G H σ ρ){bs:List Addr}(g1:i6 G (plus G H bs)):∀ {ms:List Bool} {ws:List W} {vs:List V} {ds:List D},K7 B G H σ ρ vs ws→K9 ms ws ρ=some ds→(∀ i∈a0i ρ ms ws,∀ p,σ[i]?=some (some (.ref p))→p∈bs)→(∀ i∈F1 ms ws,∀ p,σ[i]?=some (some (.ref p))→p∉bs)→(F1 ms ws).Nodup→
  P1 B.K (plus G H bs) H ms vs ds (m7 σ (F1 ms ws))
 | [],[],_,ds,q,e,_,_,_=>by cases q; cases e; exact .nil
 | [],_::_,_,_,_,e,_,_,_=>by cases e
 | true::_,[],_,_,_,e,_,_,_=>by cases e
 | false::_,[],_,_,_,e,_,_,_=>by cases e
 | false::ms,w::ws,_,ds,q,e,hb,hl,nd=>by
  cases q with
  | @cons v _ vs _ h t=>
   unfold K9 at e
   cases h1:getD w ρ with
   | none=>rw [h1] at e; cases e
   | some d=>
    cases h2:K9 ms ws ρ with
    | none=>rw [h1,h2] at e; cases e
    | some ds2=>
     rw [h1,h2] at e
     cases e
     have el:F1 (false::ms) (w::ws)=F1 ms ws:=by cases w <;> rfl
     rw [el] at hl nd ⊢
     have hb2:∀ i∈a0i ρ ms ws,∀ p,σ[i]?=some (some (.ref p))→p∈bs:=fun i hi=>hb i (by
      cases w with
      | slot j=>
       unfold a0i
       split
       ·exact List.mem_cons_of_mem _ hi
       ·exact hi
      | val _=>exact hi
      | own _=>exact hi)
     refine .sh ?_ (args_call R g1 t h2 hb2 hl nd)
     rcases h.1.get R h1 with r | ⟨p,rfl,o⟩
     ·exact r.same g1
     ·
      cases w with
      | val _=>cases h1; exact Rep.same g1 h.1
      | own _=>exact absurd (show false=true from h.2) Bool.false_ne_true
      | slot j=>
       have hv:σ[j]?=some (some (.ref p)):=h.1
       have hj:∃ l d',ρ[j]?=some (some (.ow l d'))∨(∃ d',ρ[j]?=some (some (.sh d')))∨∃ es,ρ[j]?=some (some (.fz es)):=by
        unfold getD at h1
        simp only [] at h1
        split at h1
        ·rename_i d' q; exact ⟨true,d',.inr (.inl ⟨_,q⟩)⟩
        ·rename_i l d' q; exact ⟨l,d',.inl q⟩
        ·rename_i es q; exact ⟨true,.w6,.inr (.inr ⟨es,q⟩)⟩
        ·cases h1
       obtain ⟨l,d',hj | ⟨d2,hj⟩ | ⟨es,hj⟩⟩:=hj
       ·have ed:d=d':=by
         unfold getD at h1
         simp only [hj] at h1
         exact (Option.some.inj h1).symm
        subst ed
        have hp:p∈bs:=hb j (by unfold a0i; rw [hj]; exact List.mem_cons_self) p hv
        cases d with
        | lst ds=>
         refine c6 (o) fun xs e r=>?_
         have r':=r.same g1
         exact .lst (L5.of (by rw [S7 hp]; exact e)) r'.len r'.get
        | dct es=>
         refine c6 (o) fun xs e r=>?_
         have r':=r.same g1
         exact .dct (.inl (by rw [S7 hp]; exact e)) r'.keys r'.get
        | _=>exact (show False from o).elim
       ·refine c6 (R.sh j d2 hj) fun v' q1 r=>?_
        rw [hv] at q1
        cases q1
        have ed:d=d2:=by
         unfold getD at h1
         simp only [hj] at h1
         exact (Option.some.inj h1).symm
        subst ed
        exact r.same g1
       ·refine E5 (R.fz j es hj) fun a ob kvs q1 q2 q3=>?_
        rw [hv] at q1
        cases q1
        have ed:d=.dct es:=by
         unfold getD at h1
         simp only [hj] at h1
         exact (Option.some.inj h1).symm
        subst ed
        have r':=q3.same g1
        exact .dct (.inr ⟨ob,g1 _ _ q2⟩) r'.keys r'.get
 | true::ms,.val _::ws,_,ds,q,e,_,_,_=>by cases e
 | true::ms,.own _::ws,_,ds,q,e,_,_,_=>by cases e
 | true::ms,.slot i::ws,_,ds,q,e,hb,hl,nd=>by
  cases q with
  | @cons v _ vs _ h t=>
   unfold K9 at e
   split at e
   ·rename_i l d ds2 hi h2
    cases e
    have hv:σ[i]?=some (some v):=h.1
    refine x6 (R.ow i l d hi) fun p q1 q2 q3 q4 q5=>?_
    rw [hv] at q1
    cases q1
    have el:F1 (true::ms) (.slot i::ws)=i::F1 ms ws:=rfl
    rw [el] at hl nd ⊢
    refine f9 (List.nodup_cons.mp nd) fun n1 n2=>?_
    have ea:m7 σ (i::F1 ms ws)=p::m7 σ (F1 ms ws):=by
     unfold m7
     rw [List.filterMap_cons,hv]
    rw [ea]
    have hp:p∉bs:=hl i List.mem_cons_self p hv
    refine .ln (by rw [O4 hp]; exact q2) (q5.same g1 rfl) (fun m=>?_) (args_call R g1 t h2 (fun j hj=>hb j hj) (fun j hj=>hl j (List.mem_cons_of_mem _ hj)) n2)
    refine c6 (F2.mp m) fun j hj ej=>?_
    have hoj:∃ l d,ρ[j]?=some (some (.ow l d)):=by
     clear hl n1 n2 nd ea m
     have key:∀ {ms:List Bool} {ws:List W} {ds:List D},K9 ms ws ρ=some ds→∀ j∈F1 ms ws,∃ l d,ρ[j]?=some (some (.ow l d)):=by
      intro ms
      induction ms with
      | nil=>intro ws ds e j hj; cases ws <;> cases hj
      | cons m ms ih=>
       intro ws ds e j hj
       cases ws with
       | nil=>cases m <;> cases hj
       | cons w ws=>
        cases m with
        | false=>
         have el:F1 (false::ms) (w::ws)=F1 ms ws:=by cases w <;> rfl
         rw [el] at hj
         unfold K9 at e
         split at e
         ·rename_i h2; exact ih h2 j hj
         ·cases e
        | true=>
         cases w with
         | val _=>cases e
         | own _=>cases e
         | slot k=>
          unfold K9 at e
          split at e
          ·rename_i l d ds2 hk h2
           rcases List.mem_cons.mp hj with rfl | hj
           ·exact ⟨l,d,hk⟩
           ·exact ih h2 j hj
          ·cases e
     exact key h2 j hj
    refine A6 (hoj) fun l2 d2 hj2=>?_
    have:=R.inj i j l d l2 d2 p hi hj2 hv ej
    subst this
    exact n1 hj
   ·cases e
theorem a7p:∀ {is:List Nat} {ds:List D} {ρ ρ':k9},a85 is ds ρ=some ρ'→is.Nodup→ρ'.length=ρ.length∧(∀ i,i∉is→ρ'[i]?=ρ[i]?)∧∀ (k i:Nat),is[k]?=some i→∃ l d d',ρ[i]?=some (some (.ow l d))∧ds[k]?=some d'∧ρ'[i]?=some (some (.ow l d'))
 | [],[],ρ,ρ',e,_=>by cases e; exact ⟨rfl,fun _ _=>rfl,fun k i h=>by simp at h⟩
 | [],_::_,_,_,e,_=>by cases e
 | _::_,[],_,_,e,_=>by cases e
 | i::is,d::ds,ρ,ρ',e,nd=>by
  unfold a85 at e
  split at e
  ·rename_i l d0 hi
   have hil:i < ρ.length:=(List.getElem?_eq_some_iff.mp hi).1
   refine f9 (List.nodup_cons.mp nd) fun n1 n2=>?_
   refine n8 (a7p e n2) fun a b c=>?_
   refine ⟨by rw [a]; simp,fun j hj=>?_,fun k j hk=>?_⟩
   ·rw [b j fun m=>hj (List.mem_cons_of_mem _ m),List.getElem?_set_ne fun z=>hj (by rw [z]; exact List.mem_cons_self)]
   ·cases k with
    | zero=>
     simp at hk
     subst hk
     exact ⟨l,d0,d,hi,rfl,by rw [b i n1,List.getElem?_set_self hil]⟩
    | succ k=>
     have hk':is[k]?=some j:=by simpa using hk
     refine E5 (c k j hk') fun l' d1 d2 e1 e2 e3=>?_
     have hne:i≠j:=fun z=>n1 (by rw [z]; exact List.mem_of_getElem? hk')
     rw [List.getElem?_set_ne hne] at e1
     exact ⟨l',d1,d2,e1,by simpa using e2,e3⟩
  ·cases e
theorem a1I:∀ {is:List Nat} {ρ ρ':k9},a1M is ρ=some ρ'→ρ'.length=ρ.length∧(∀ i,i∉is→ρ'[i]?=ρ[i]?)∧∀ i∈is,∃ d,ρ'[i]?=some (some (.sh d))∧(ρ[i]?=some (some (.ow false d))∨ρ[i]?=some (some (.sh d)))
 | [],ρ,ρ',e=>by cases e; exact ⟨rfl,fun _ _=>rfl,fun i h=>by cases h⟩
 | i::is,ρ,ρ',e=>by
  unfold a1M at e
  split at e
  ·rename_i d hi
   have hil:i < ρ.length:=(List.getElem?_eq_some_iff.mp hi).1
   refine n8 (a1I e) fun a b c=>?_
   refine ⟨by rw [a]; simp,fun j hj=>?_,fun j hj=>?_⟩
   ·rw [b j fun m=>hj (List.mem_cons_of_mem _ m),List.getElem?_set_ne fun z=>hj (by rw [z]; exact List.mem_cons_self)]
   ·by_cases z:i=j
    ·subst z
     by_cases m:i∈is
     ·refine c6 (c i m) fun d' e1 e2=>?_
      rw [List.getElem?_set_self hil] at e2
      refine Or.elim (e2) (fun e2=>?_) fun e2=>?_
      ·cases e2
      ·cases e2
       exact ⟨d,e1,.inl hi⟩
     ·exact ⟨d,by rw [b i m,List.getElem?_set_self hil],.inl hi⟩
    ·have hj':j∈is:=by rcases List.mem_cons.mp hj with h | h; exact absurd h.symm z; exact h
     refine c6 (c j hj') fun d' e1 e2=>?_
     rw [List.getElem?_set_ne z] at e2
     exact ⟨d',e1,e2⟩
  ·rename_i d hi
   refine n8 (a1I e) fun a b c=>?_
   refine ⟨a,fun j hj=>b j fun m=>hj (List.mem_cons_of_mem _ m),fun j hj=>?_⟩
   rcases List.mem_cons.mp hj with rfl | hj
   ·by_cases m:j∈is
    ·exact c j m
    ·exact ⟨d,by rw [b j m]; exact hi,.inr hi⟩
   ·exact c j hj
  ·cases e
theorem a5z:∀ {is:List Nat} {k i:Nat} {p:Addr},(∀ j∈is,∃ q,σ[j]?=some (some (.ref q)))→is[k]?=some i→σ[i]?=some (some (.ref p))→(m7 σ is)[k]?=some p
 | [],k,i,p,_,h,_=>by simp at h
 | j::is,k,i,p,ha,h,e=>by
  refine g8 (ha j List.mem_cons_self) fun q hq=>?_
  have ea:m7 σ (j::is)=q::m7 σ is:=by
   unfold m7
   rw [List.filterMap_cons,hq]
  rw [ea]
  cases k with
  | zero=>
   simp at h
   subst h
   rw [hq] at e
   cases e
   rfl
  | succ k=>exact a5z (fun l hl=>ha l (List.mem_cons_of_mem _ hl)) (by simpa using h) e
theorem a1K {α β:Type}{F:α→β→Prop}:∀ {xs:List α} {ys:List β} {k:Nat} {x:α} {y:β},Paired F xs ys→xs[k]?=some x→ys[k]?=some y→F x y
 | _,_,0,_,_,.cons h _,a,b=>by simp at a b; subst a b; exact h
 | _,_,k + 1,_,_,.cons _ t,a,b=>a1K (k:=k) t (by simpa using a) (by simpa using b)
 | _,_,_,_,_,.nil,a,_=>by simp at a
theorem b6l {p:Addr}{d:D}{K:PySem.W.Frag}(o:A5 K G H p d):a8U (H p):=by
 cases d with
 | lst ds=>refine c6 (o) fun xs e _=>?_; rw [e]; exact True.intro
 | dct es=>refine c6 (o) fun xs e _=>?_; rw [e]; exact True.intro
 | _=>exact (show False from o).elim
theorem a0v {bi li:List Nat}{G' H':Hp}{fin:List D}{ρ1 ρ2:k9}{v:V}{w:W}(R:RS B G H σ ρ)(hbi:∀ i∈bi,∃ l d,ρ[i]?=some (some (.ow l d)))(hli:∀ i∈li,∃ l d,ρ[i]?=some (some (.ow l d)))(nd:li.Nodup)(ap:∀ i∈li,i∉bi)
  (A:After B.K (plus G H (m7 σ bi)) H (m7 σ li) G' H' fin) (hs:a85 li fin ρ=some ρ1) (rr:a6F B.K H G' H' v w)
  (hend:((a5y w && fin.all a0d)=true∧ρ2=ρ1)∨a1M bi ρ1=some ρ2):∃ Gn,i6 G Gn∧RS B Gn H' σ ρ2∧D4 B Gn H' σ ρ2 v w:=by
 have refs:∀ {i l d},ρ[i]?=some (some (.ow l d))→∃ p,σ[i]?=some (some (.ref p))∧G p=none∧B.HK p=none∧Lnt B i l p∧A5 B.K G H p d:=fun h=>R.ow _ _ _ h
 have hlr:∀ j∈li,∃ q,σ[j]?=some (some (.ref q)):=fun j hj=>by
  refine A6 (hli j hj) fun l d h=>?_
  refine c6 (refs h) fun p q _=>?_
  exact ⟨p,q⟩
 have inB:∀ {b},b∈m7 σ bi→∃ i l d,i∈bi∧ρ[i]?=some (some (.ow l d))∧σ[i]?=some (some (.ref b))∧G b=none∧B.HK b=none∧Lnt B i l b∧A5 B.K G H b d:=fun {b} hb=>by
  refine c6 (F2.mp hb) fun i hi e=>?_
  refine A6 (hbi i hi) fun l d h=>?_
  refine x6 (refs h) fun p q1 q2 q3 q4 q5=>?_
  rw [e] at q1
  cases q1
  exact ⟨i,l,d,hi,h,e,q2,q3,q4,q5⟩
 have inL:∀ {b},b∈m7 σ li→∃ i l d,i∈li∧ρ[i]?=some (some (.ow l d))∧σ[i]?=some (some (.ref b))∧G b=none∧B.HK b=none:=fun {b} hb=>by
  refine c6 (F2.mp hb) fun i hi e=>?_
  refine A6 (hli i hi) fun l d h=>?_
  refine x6 (refs h) fun p q1 q2 q3 q4 q5=>?_
  rw [e] at q1
  cases q1
  exact ⟨i,l,d,hi,h,e,q2,q3⟩
 have s1:i6 G (plus G H (m7 σ bi)):=fun b o e=>by
  rw [O4 fun m=>?_]
  ·exact e
  ·refine Y9 (inB m) fun _ _ _ _ _ _ g _=>?_
   rw [e] at g
   cases g
 have s2:i6 G G':=s1.trans A.gg
 have bsLD:∀ b∈m7 σ bi,a8U (G' b):=fun b hb=>by
  refine b1d (inB hb) fun i l d _ _ _ _ _ _ o=>?_
  refine g8 (o.some) fun ob hob=>?_
  have e:=A.gg b ob (by rw [S7 hb]; exact hob)
  have z:=b6l o
  rw [hob] at z
  rw [e]
  exact z
 refine n8 (a7p hs nd) fun len1 out1 at1=>?_
 
 have keepH:∀ b o,H b=some o→b∉m7 σ li→H' b=some o:=fun b o e hb=>A.keep b o (by rw [P8 hb]; exact e)
 have keepK:i6 B.HK H':=fun b o e=>keepH b o (R.keep b o e) fun m=>by
  refine Y9 (inL m) fun _ _ _ _ _ _ _ hk=>?_
  rw [e] at hk
  cases hk
 have notG':∀ p,G p=none→p∉m7 σ bi→(∃ o,H p=some o)→G' p=none:=fun p g nb Z9=>g8 Z9 fun o ho=>by
  cases hg:G' p with
  | none=>rfl
  | some ob=>
   refine Or.elim (A.gnew p ob hg) (fun z=>?_) fun z=>?_
   ·rw [O4 nb,g] at z; cases z
   ·rw [ho] at z; cases z
 
 have lentOk:∀ {i},i∈li→∀ {l d'},ρ1[i]?=some (some (.ow l d'))→∃ p,σ[i]?=some (some (.ref p))∧G' p=none∧B.HK p=none∧Lnt B i l p∧A5 B.K G' H' p d'∧d'∈fin:=fun {i} hi {l d'} e=>by
  refine g8 (List.getElem?_of_mem hi) fun k hk=>?_
  refine E5 (at1 k i hk) fun l0 d0 d1 e0 e1 e2=>?_
  rw [e] at e2
  cases e2
  refine x6 (refs e0) fun p q1 q2 q3 q4 q5=>?_
  have hp:=a5z hlr hk q1
  obtain ⟨z1,z2⟩:=a1K A.lent hp e1
  exact ⟨p,q1,z1,q3,q4,z2,List.mem_of_getElem? e1⟩
 have otherOk:∀ {i},i∉li→∀ {l d'},ρ1[i]?=some (some (.ow l d'))→∃ p,σ[i]?=some (some (.ref p))∧G p=none∧B.HK p=none∧Lnt B i l p∧A5 B.K G H p d'∧H' p=H p∧ρ[i]?=some (some (.ow l d')):=fun {i} hi {l d'} e=>by
  rw [out1 i hi] at e
  refine x6 (refs e) fun p q1 q2 q3 q4 q5=>?_
  refine g8 (q5.some) fun o ho=>?_
  refine ⟨p,q1,q2,q3,q4,q5,?_,e⟩
  rw [ho]
  refine keepH p o ho fun m=>?_
  refine n6 (inL m) fun j l2 d2 hj ej ej2 _=>?_
  exact hi (by rw [R.inj i j _ _ _ _ p e ej q1 ej2]; exact hj)
 have sh1:∀ {i:Nat} {d':D},ρ1[i]?=some (some (C.sh d'))→ρ[i]?=some (some (C.sh d')):=fun {i d'} e=>by
  by_cases hi:i∈li
  ·refine g8 (List.getElem?_of_mem hi) fun k hk=>?_
   refine E5 (at1 k i hk) fun l0 d0 d1 e0 e1 e2=>?_
   rw [e] at e2
   cases e2
  ·rw [out1 i hi] at e
   exact e
 have fz1:∀ {i:Nat} {es:List (Key×D)},ρ1[i]?=some (some (C.fz es))→ρ[i]?=some (some (C.fz es)):=fun {i es} e=>by
  by_cases hi:i∈li
  ·refine g8 (List.getElem?_of_mem hi) fun k hk=>?_
   refine E5 (at1 k i hk) fun l0 d0 d1 e0 e1 e2=>?_
   rw [e] at e2
   cases e2
  ·rw [out1 i hi] at e
   exact e
 have inj1:∀ {i j:Nat} {l:Bool} {d:D} {k:Bool} {e:D} {p:Addr},ρ1[i]?=some (some (.ow l d))→ρ1[j]?=some (some (.ow k e))→σ[i]?=some (some (.ref p))→σ[j]?=some (some (.ref p))→i=j:=fun {i j l d k e p} a b c f=>by
  have old:∀ {i:Nat} {l:Bool} {d:D},ρ1[i]?=some (some (.ow l d))→∃ l d,ρ[i]?=some (some (.ow l d)):=fun {i l d} a=>by
   by_cases hi:i∈li
   ·exact hli i hi
   ·rw [out1 i hi] at a; exact ⟨_,_,a⟩
  refine A6 (old a) fun l1 d1 a1=>?_
  refine A6 (old b) fun l2 d2 a2=>?_
  exact R.inj i j l1 d1 l2 d2 p a1 a2 c f
 have ob1:∀ {i:Nat} {c:C},isO c=true→ρ1[i]?=some (some c)→ρ[i]?=some (some c):=fun {i c} z e=>by
  by_cases hi:i∈li
  ·refine g8 (List.getElem?_of_mem hi) fun k hk=>?_
   refine E5 (at1 k i hk) fun l0 d0 d1 e0 e1 e2=>?_
   rw [e] at e2
   cases e2
   cases z
  ·rw [out1 i hi] at e
   exact e
 have ot1:∀ {i:Nat} {d:D},ρ1[i]?=some (some (C.ow true d))→∃ d0,ρ[i]?=some (some (C.ow true d0)):=fun {i d} e=>by
  by_cases hi:i∈li
  ·refine g8 (List.getElem?_of_mem hi) fun k hk=>?_
   refine E5 (at1 k i hk) fun l0 d0 d1 e0 e1 e2=>?_
   rw [e] at e2
   cases e2
   exact ⟨_,e0⟩
  ·rw [out1 i hi] at e
   exact ⟨_,e⟩
 have insH:∀ p C dx fs,H p=some (.ins C dx fs)→H' p=some (.ins C dx fs):=fun p C dx fs e=>keepH p _ e fun m=>by
  refine c6 (F2.mp m) fun i hi e2=>?_
  refine A6 (hli i hi) fun l d h=>?_
  refine x6 (refs h) fun p' q1 _ _ _ q5=>?_
  rw [e2] at q1
  cases q1
  exact W0 q5 e rfl
 have insB:∀ p C dx fs,H p=some (.ins C dx fs)→p∉m7 σ bi:=fun p C dx fs e m=>by
  refine b1d (inB m) fun i l d _ _ _ _ _ _ o=>?_
  exact W0 o e rfl
 rcases hend with ⟨hf,rfl⟩ | hsh
 ·
  rw [Bool.and_eq_true] at hf
  refine f9 (hf) fun fw ff=>?_
  have sN:i6 G (minus G' (m7 σ bi)):=fun b o e=>by
   rw [P8 fun m=>?_]
   ·exact s2 b o e
   ·refine Y9 (inB m) fun _ _ _ _ _ _ g _=>?_
    rw [e] at g
    cases g
  refine ⟨minus G' (m7 σ bi),sN,⟨R.hk,keepK,R.g0.trans sN,(G9 _ _).trans A.gH,fun b o e=>?_,fun b e=>R.dom b (A.dom b e),by rw [len1]; exact R.len,fun i d e=>?_,fun i l d e=>?_,fun i j l d k e p a b c f=>inj1 a b c f,fun i es e=>(R.fz.same sN) i es (fz1 e),R.ob.to sN (fun p C dx fs e g=>by rw [P8 (insB p C dx fs e)]; exact notG' p g (insB p C dx fs e) ⟨_,e⟩) (fun p C dx fs e _ _=>insH p C dx fs e) (fun i c z e=>⟨ob1 z e,rfl⟩) fun j d e=>⟨ot1 e,rfl⟩⟩,?_⟩
  ·have e':=G9 _ _ b o e
   have nb:b∉m7 σ bi:=fun m=>by rw [a0g m] at e; cases e
   refine Or.elim (A.gnew b o e') (fun z=>?_) fun z=>?_
   ·rw [O4 nb] at z
    exact R.gnew b o z
   ·exact .inr (R.dom b z)
  ·refine c6 (R.sh i d (sh1 e)) fun v q1 q2=>?_
   exact ⟨v,q1,q2.same sN⟩
  ·by_cases hi:i∈li
   ·refine a9h (lentOk hi e) fun p q1 q2 q3 q4 q5 q6=>?_
    refine ⟨p,q1,?_,q3,q4,q5.minus bsLD (List.all_eq_true.mp ff d q6)⟩
    unfold minus
    split
    ·rfl
    ·exact q2
   ·refine b5s (otherOk hi e) fun p q1 q2 q3 q4 q5 q6 q7=>?_
    refine ⟨p,q1,?_,q3,q4,q5.same sN q6⟩
    unfold minus
    split
    ·rfl
    ·exact notG' p q2 ‹_› q5.some
  ·cases w with
   | val d=>exact Rep.minus 6 bsLD fw rr
   | slot i=>exact rr.elim
   | own d=>
    refine a5J (rr) fun p Z1 g h0 o=>?_; subst Z1
    have fo:a0d d=true:=by
     cases d with
     | lst ds=>exact fw
     | dct es=>exact fw
     | _=>exact (show False from o).elim
    refine ⟨p,rfl,?_,R.dom p h0,o.minus bsLD fo,fun i l e he z=>?_⟩
    ·unfold minus
     split
     ·rfl
     ·exact g
    ·have hz:∃ ob,H p=some ob:=by
      by_cases hi:i∈li
      ·refine A6 (hli i hi) fun l0 d0 a0=>?_
       refine x6 (refs a0) fun p' q1 _ _ _ q5=>?_
       rw [z] at q1
       cases q1
       exact q5.some
      ·refine a9h (otherOk hi he) fun p' q1 q2 q3 q4 q5 _=>?_
       rw [z] at q1
       cases q1
       exact q5.some
     refine g8 (hz) fun ob hob=>?_
     rw [h0] at hob
     cases hob
 ·
  refine n8 (a1I hsh) fun len2 out2 at2=>?_
  have ow2:∀ {i:Nat} {l:Bool} {d:D},ρ2[i]?=some (some (.ow l d))→i∉bi∧ρ1[i]?=some (some (.ow l d)):=fun {i l d} e=>by
   have hi:i∉bi:=fun m=>by
    refine c6 (at2 i m) fun d' e1 _=>?_
    rw [e] at e1
    cases e1
   exact ⟨hi,by rw [← out2 i hi]; exact e⟩
  have fz2:∀ {i:Nat} {es:List (Key×D)},ρ2[i]?=some (some (C.fz es))→ρ1[i]?=some (some (C.fz es)):=fun {i es} e=>by
   have hi:i∉bi:=fun m=>by
    refine c6 (at2 i m) fun d' e1 _=>?_
    rw [e] at e1
    cases e1
   rw [← out2 i hi]
   exact e
  have ob2:∀ {i:Nat} {c:C},isO c=true→ρ2[i]?=some (some c)→ρ1[i]?=some (some c):=fun {i c} z e=>by
   have hi:i∉bi:=fun m=>by
    refine c6 (at2 i m) fun d' e1 _=>?_
    rw [e] at e1
    cases e1
    cases z
   rw [← out2 i hi]
   exact e
  refine ⟨G',s2,⟨R.hk,keepK,R.g0.trans s2,A.gH,fun b o e=>?_,fun b e=>R.dom b (A.dom b e),by rw [len2,len1]; exact R.len,fun i d e=>?_,fun i l d e=>?_,fun i j l d k e p a b c f=>inj1 (ow2 a).2 (ow2 b).2 c f,fun i es e=>(R.fz.same s2) i es (fz1 (fz2 e)),R.ob.to s2 (fun p C dx fs e g=>notG' p g (insB p C dx fs e) ⟨_,e⟩) (fun p C dx fs e _ _=>insH p C dx fs e) (fun i c z e=>⟨ob1 z (ob2 z e),rfl⟩) fun j d e=>⟨ot1 (ow2 e).2,rfl⟩⟩,?_⟩
  ·refine Or.elim (A.gnew b o e) (fun z=>?_) fun z=>?_
   ·by_cases m:b∈m7 σ bi
    ·refine b1d (inB m) fun i l d hi h e2 g _ ln o'=>?_
     refine c6 (at2 i hi) fun d' e3 e4=>?_
     have hil:i∉li:=fun mm=>ap i mm hi
     rw [out1 i hil,h] at e4
     refine Or.elim (e4) (fun e4=>?_) fun e4=>?_
     ·cases e4
      exact .inr ln
     ·cases e4
    ·rw [O4 m] at z
     exact R.gnew b o z
   ·exact .inr (R.dom b z)
  ·by_cases hi:i∈bi
   ·refine c6 (at2 i hi) fun d' e1 e2=>?_
    rw [e] at e1
    cases e1
    have hil:i∉li:=fun mm=>ap i mm hi
    rw [out1 i hil] at e2
    refine Or.elim (e2) (fun e2=>?_) fun e2=>?_
    ·refine x6 (refs e2) fun p q1 q2 q3 q4 q5=>?_
     have hp:p∈m7 σ bi:=F2.mpr ⟨i,hi,q1⟩
     refine ⟨_,q1,?_⟩
     cases d with
     | lst ds=>
      refine c6 (q5) fun xs e r=>?_
      have r':=r.same s2
      exact .lst (L5.of (A.gg p _ (by rw [S7 hp]; exact e))) r'.len r'.get
     | dct es=>
      refine c6 (q5) fun xs e r=>?_
      have r':=r.same s2
      exact .dct (.inl (A.gg p _ (by rw [S7 hp]; exact e))) r'.keys r'.get
     | _=>exact (show False from q5).elim
    ·refine c6 (R.sh i d e2) fun v q1 q2=>?_
     exact ⟨v,q1,q2.same s2⟩
   ·rw [out2 i hi] at e
    refine c6 (R.sh i d (sh1 e)) fun v q1 q2=>?_
    exact ⟨v,q1,q2.same s2⟩
  ·refine f9 (ow2 e) fun hb e1=>?_
   by_cases hi:i∈li
   ·refine a9h (lentOk hi e1) fun p q1 q2 q3 q4 q5 _=>?_
    exact ⟨p,q1,q2,q3,q4,q5⟩
   ·refine b5s (otherOk hi e1) fun p q1 q2 q3 q4 q5 q6 q7=>?_
    refine ⟨p,q1,notG' p q2 (fun m=>?_) q5.some,q3,q4,q5.same s2 q6⟩
    refine n6 (inB m) fun j l2 d2 hj ej ej2 _=>?_
    exact hb (by rw [R.inj i j _ _ _ _ p q7 ej q1 ej2]; exact hj)
  ·cases w with
   | val d=>exact rr
   | slot i=>exact rr.elim
   | own d=>
    refine a5J (rr) fun p Z1 g h0 o=>?_; subst Z1
    refine ⟨p,rfl,g,R.dom p h0,o,fun i l e he z=>?_⟩
    refine f9 (ow2 he) fun hb e1=>?_
    have hz:∃ ob,H p=some ob:=by
     by_cases hi:i∈li
     ·refine A6 (hli i hi) fun l0 d0 a0=>?_
      refine x6 (refs a0) fun p' q1 _ _ _ q5=>?_
      rw [z] at q1
      cases q1
      exact q5.some
     ·refine a9h (otherOk hi e1) fun p' q1 q2 q3 q4 q5 _=>?_
      rw [z] at q1
      cases q1
      exact q5.some
    refine g8 (hz) fun ob hob=>?_
    rw [h0] at hob
    cases hob
theorem b2t:∀ {ms:List Bool} {ws:List W} {ds:List D},K9 ms ws ρ=some ds→∀ j∈F1 ms ws,∃ l d,ρ[j]?=some (some (.ow l d)):=by
 intro ms
 induction ms with
 | nil=>intro ws ds e j hj; cases ws <;> cases hj
 | cons m ms ih=>
  intro ws ds e j hj
  cases ws with
  | nil=>cases m <;> cases hj
  | cons w ws=>
   cases m with
   | false=>
    have el:F1 (false::ms) (w::ws)=F1 ms ws:=by cases w <;> rfl
    rw [el] at hj
    unfold K9 at e
    split at e
    ·rename_i h2; exact ih h2 j hj
    ·cases e
   | true=>
    cases w with
    | val _=>cases e
    | own _=>cases e
    | slot k=>
     unfold K9 at e
     split at e
     ·rename_i l d ds2 hk h2
      rcases List.mem_cons.mp hj with rfl | hj
      ·exact ⟨l,d,hk⟩
      ·exact ih h2 j hj
     ·cases e
end
section
variable {X:Cx}{B:Bs}{k:Nat}{x:Str}{ps:List Str}{ms:List Bool}{fm:List D→Option FR}{e:Expr}{es:List Expr}{mr:M (List W)}{p pos:Pos}
theorem b41 {ξ:XP}{σ:St}{H:Hp}{Q:VK}(t:TD C1 B ξ (w5 ms fm mr) σ H Q):b10 (Q4 B.K ms fm) [] E0 (TD K7 B ξ mr) σ H Q:=by
 refine l6 (t) fun G ρ R t=>?_
 refine (TD.bind (rel:=K7) R t).mono fun vs H1 Z0=>n6 (Z0) fun G1 ρ1 ws s1 R1 q1 Z9=>c6 Z9 fun r er pp=>?_
 rw [List.append_nil]
 unfold a9N at er
 cases ha:K9 ms ws ρ1 with
 | none=>simp only [ha] at er; cases er
 | some ds=>
  simp only [ha] at er
  split at er
  ·rename_i hap
   unfold a6t at hap
   rw [Bool.and_eq_true] at hap
   have nd:(F1 ms ws).Nodup:=of_decide_eq_true hap.1
   have ap:∀ i∈F1 ms ws,i∉a0i ρ1 ms ws:=fun i hi m=>by
    have:=List.all_eq_true.mp hap.2 i hi
    simp at this
    exact this m
   split at er
   ·rename_i w fin hfm
    split at er
    ·cases er
    ·rename_i ρ2 hs
     have hli:=b2t ha
     have hbi:∀ i∈a0i ρ1 ms ws,∃ l d,ρ1[i]?=some (some (.ow l d)):=fun i hi=>a1j hi
     have s2:i6 G1 (plus G1 H1 (m7 σ (a0i ρ1 ms ws))):=fun b o e=>by
      rw [O4 fun m=>?_]
      ·exact e
      ·refine c6 (F2.mp m) fun i hi e2=>?_
       refine A6 (hbi i hi) fun l d h=>?_
       refine j7 (R1.ow i l d h) fun p' a1 a2 _=>?_
       rw [e2] at a1
       cases a1
       rw [e] at a2
       cases a2
     have gH:i6 (plus G1 H1 (m7 σ (a0i ρ1 ms ws))) H1:=fun b o e=>by
      by_cases m:b∈m7 σ (a0i ρ1 ms ws)
      ·rw [S7 m] at e; exact e
      ·rw [O4 m] at e; exact R1.gH b o e
     have A:=args_call R1 s2 q1 ha (fun i hi p' e=>F2.mpr ⟨i,hi,e⟩) (fun i hi p' e m=>by
      refine c6 (F2.mp m) fun j hj ej=>?_
      refine A6 (hli i hi) fun l d h=>?_
      refine A6 (hbi j hj) fun l2 d2 h2=>?_
      have:=R1.inj i j l d l2 d2 p' h h2 e ej
      subst this
      exact ap i hi hj) nd
     refine ⟨_,ds,_,_,gH,A,hfm,fun v G' H' af rr=>?_⟩
     split at er
     ·rename_i hfl
      cases er
      refine j7 (a0v R1 hbi hli nd ap af hs rr (.inl ⟨hfl,rfl⟩)) fun Gn sn Rn wn=>?_
      exact pp v Gn H' sn Rn wn
     ·refine c6 (Option.map_eq_some_iff.mp er) fun ρ3 hsh Z1=>?_; subst Z1
      refine j7 (a0v R1 hbi hli nd ap af hs rr (.inr hsh)) fun Gn sn Rn wn=>?_
      exact pp v Gn H' sn Rn wn
   ·cases er
  ·cases er
theorem B5 (h:Has X.prog X.w X.K X.mg X.base k x ps (Q4 X.K ms fm))(hr:K5 k X.A)(ha:PDA X B (e::es) mr)(hg:autoParam (Gl X x) m6._auto_1)(hK:autoParam (X.K=B.K) m6._auto_1)(hdb:autoParam ((x == ("__debug__":Str))=false) Y0._auto_1)
  (he:autoParam (starEach (e::es) X.env=(false,eval e X.env)::starEach es X.env) m6._auto_1) (hpl:autoParam ((backTo pos (starEach es X.env)).any (·.1)=false) m6._auto_1):PD X B (.Call (.Name x p) (e::es) [] pos) (w5 ms fm mr):=.mk fun ξ=>
 (b7Q (X:=rz X ξ) h hr (ha.ap ξ) hg hdb he hpl).imp fun σ H Q t=>by
  have t':=b41 t
  rw [← hK] at t'
  exact t'
end
end L3
set_option Elab.async false
set_option linter.all false
set_option maxRecDepth 100000
set_option maxHeartbeats 4000000
namespace L3
open PySem PySem.Spec PyProof.Rows L2
noncomputable def b6M (X:Cx)(scope:Scope):List (Str×Nat)→Prop
 | []=>True
 | c::r=>(X.N[c.2]?=some c.1∧scope.names.lookup c.1=some .free∧(X.env.kindOf c.1=some .cell∨X.env.kindOf c.1=some .free))∧b6M X scope r
theorem a6d {X:Cx}{scope:Scope}:∀ {cs:List (Str×Nat)},b6M X scope cs→∀ c∈cs,X.N[c.2]?=some c.1∧scope.names.lookup c.1=some .free∧(X.env.kindOf c.1=some .cell∨X.env.kindOf c.1=some .free)
 | [],_,c,h=>by cases h
 | c::r,h,c',hm=>by
  rcases List.mem_cons.mp hm with rfl | hm
  ·exact h.1
  ·exact a6d h.2 c' hm
theorem a1V {X:Cx}{scope:Scope}{x:Str}(cs:List (Str×Nat))(hc:b6M X scope cs)(kind:autoParam (scope.kind=.function) m6._auto_1)(h:autoParam (namesOk scope (cs.map (·.1))=true) au8._auto_1)(nd:autoParam ((x::cs.map (·.1)).Nodup) au8._auto_1):Blk X scope (x::cs.map (·.1)) 1 (cs.map (·.2)):=by
 refine Blk.mk' (fs:=cs.map (·.1)) kind h nd (by simp; omega) (fun n hn=>?_) fun i j e=>?_
 ·refine c6 (List.mem_map.mp hn) fun c hm Z1=>?_; subst Z1
  exact (a6d hc c hm).2.2
 ·rw [List.getElem?_map] at e
  cases hi:cs[i]? with
  | none=>rw [hi] at e; cases e
  | some c=>
   rw [hi] at e
   cases e
   refine n8 (a6d hc c (List.mem_of_getElem? hi)) fun a b d=>?_
   refine ⟨?_,c.1,a,b,d⟩
   rw [Nat.add_comm,List.getElem?_cons_succ,List.getElem?_map,hi]
   exact a.symm
theorem _root_.L2.PE.U6 {X:Cx}{E E':Value→Shared→Prop}{e:Expr}{t:TE}(h:PE (X.Q5 E) e t)(i:∀ e s,E e s→E' e s):PE (X.Q5 E') e t:=fun pins s σ H Q I hw=>
 wpAny_mono (h pins s σ H Q (I.N8.Q5 _) hw) (fun _ _ Z9=>i9 Z9 fun v H' I' r q=>⟨v,H',I'.N8.Q5 _,r,q⟩) fun e s z=>i e s z
theorem _root_.L2.PF.U6 {X:Cx}{E E':Value→Shared→Prop}{e:List Expr}{t:TT}(h:PF (X.Q5 E) e t)(i:∀ e s,E e s→E' e s):PF (X.Q5 E') e t:=fun pins s σ H Q I hw=>
 wpAny_mono (h pins s σ H Q (I.N8.Q5 _) hw) (fun _ _ Z9=>c6 Z9 fun H' I' q=>⟨H',I'.N8.Q5 _,q⟩) fun e s z=>i e s z
theorem _root_.L2.PF.imp {X:Cx}{e:List Expr}{t t':TT}(h:PF X e t)(i:∀ σ H Q,t' σ H Q→t σ H Q):PF X e t':=fun pins s σ H Q I q=>h pins s σ H Q I (i σ H Q q)
structure PDF (X:Cx) (B:Bs) (e:List Expr) (m:M Bool):Prop where
 ap:∀ ξ,PF (rz X ξ) e (TD a0L B ξ m)
noncomputable def N4:M Bool:=M.pure true
theorem a0H {X:Cx}{B:Bs}:PDF X B [] N4:=.mk fun ξ=>(b5I (X:=rz X ξ)).imp fun σ H Q t=>by
 refine l6 (t) fun G ρ R Z9=>c6 Z9 fun r e p=>?_
 cases e
 exact p true G H (i6.refl _) R rfl
theorem b5k {X:Cx}{B:Bs}{c:Expr}{m:M Bool}(h:PDT X B c m):PDF X B [c] m:=.mk fun ξ=>b5N (h.ap ξ)
noncomputable def b9r:Option C→Option C
 | some (.ow _ d)=>some (.sh d)
 | some (.ob _ fds)=>some (.rd fds)
 | c=>c
noncomputable def U1 (own:Nat)(fr:List Nat)(ρ:k9):k9:=List.replicate own none++fr.map fun j=>b9r (ρ[j]?).join
noncomputable def compTurn (tg:FT)(mt:M Bool)(me:M W)(ρ:k9)(d:D):Option (Option D):=match tg d ρ with
 | none=>none
 | some ρ1=>match mt ρ1 with
  | some (.ok false _)=>some none
  | some (.ok true ρ2)=>match M.bind me D3 ρ2 with
   | some (.ok y _)=>some (some y)
   | _=>none
  | _=>none
noncomputable def K6 (tg:FT)(mt:M Bool)(me:M W)(ρ:k9):List D→Option (List D)
 | []=>some []
 | d::ds=>match compTurn tg mt me ρ d,K6 tg mt me ρ ds with
  | some (some y),some ys=>some (y::ys)
  | some none,some ys=>some ys
  | _,_=>none
noncomputable def a1H (ρ:k9)(fr:List Nat):List Nat:=fr.filter fun j=>match ρ[j]? with
 | some (some (.ow _ _))=>true
 | _=>false
noncomputable def b3g (tg:FT)(mt:M Bool)(me:M W)(own:Nat)(fr:List Nat)(ds:List D):M W:=fun ρ=>match K6 tg mt me (U1 own fr ρ) ds with
 | none=>none
 | some ys=>grd (small ds.length) (if ys.all Q6=true then some (.ok (.own (.lst ys)) ρ) else (a1M (a1H ρ fr) ρ).map (R'.ok (.own (.lst ys)) ·))
noncomputable def D9 (mi:M (List D))(tg:FT)(mt:M Bool)(me:M W)(own:Nat)(fr:List Nat):M W:=M.bind mi fun ds=>b3g tg mt me own fr ds
theorem b2B {ρ:k9}{fr:List Nat}{i:Nat}(h:i∈a1H ρ fr):i∈fr∧∃ l d,ρ[i]?=some (some (.ow l d)):=by
 unfold a1H at h
 refine f9 (List.mem_filter.mp h) fun h1 h2=>?_
 refine ⟨h1,?_⟩
 split at h2
 ·exact ⟨_,_,‹_›⟩
 ·cases h2
section
variable {B:Bs}{G H:Hp}{σ:St}{ρ:k9}{own:Nat}{fr:List Nat}
theorem T5 {i:Nat}{c:C}(h:(U1 own fr ρ)[i]?=some (some c)):∃ k j,i=own + k∧fr[k]?=some j∧((∃ d,c=.sh d∧(ρ[j]?=some (some (.sh d))∨∃ l,ρ[j]?=some (some (.ow l d))))∨(∃ es,c=.fz es∧ρ[j]?=some (some (.fz es)))∨∃ fds,c=.rd fds∧(ρ[j]?=some (some (.rd fds))∨∃ l,ρ[j]?=some (some (.ob l fds)))):=by
 unfold U1 at h
 by_cases hi:i < own
 ·rw [List.getElem?_append_left (by simpa using hi),List.getElem?_replicate,if_pos hi] at h
  cases h
 ·rw [List.getElem?_append_right (by simpa using hi)] at h
  simp only [List.length_replicate,List.getElem?_map] at h
  cases e:fr[i - own]? with
  | none=>rw [e] at h; cases h
  | some j=>
   rw [e] at h
   simp only [Option.map_some,Option.some.injEq] at h
   refine ⟨i - own,j,by omega,e,?_⟩
   cases q:ρ[j]? with
   | none=>rw [q] at h; cases h
   | some o=>
    rw [q] at h
    cases o with
    | none=>cases h
    | some c0=>
     cases c0 with
     | sh d=>cases h; exact .inl ⟨d,rfl,.inl rfl⟩
     | ow l d=>cases h; exact .inl ⟨d,rfl,.inr ⟨l,rfl⟩⟩
     | fz es=>cases h; exact .inr (.inl ⟨es,rfl,rfl⟩)
     | ob l fds=>cases h; exact .inr (.inr ⟨fds,rfl,.inr ⟨l,rfl⟩⟩)
     | rd fds=>cases h; exact .inr (.inr ⟨fds,rfl,.inl rfl⟩)
theorem a15 {k j:Nat}{v:V}(h:fr[k]?=some j)(e:σ[j]?=some (some v)):(seen own fr σ)[own + k]?=some (some v):=by
 unfold L2.seen
 rw [List.getElem?_append_right (by simp)]
 simp only [List.length_replicate,List.getElem?_map,Nat.add_sub_cancel_left,h,Option.map_some,e]
 rfl
theorem b19 {H1 H2 Gb:Hp}(R:RS B G H1 σ ρ)(sg:i6 (plus G H1 (m7 σ (a1H ρ fr))) Gb)(gb:i6 Gb H2)(kp:i6 H1 H2)(gnew:∀ p o,Gb p=some o→plus G H1 (m7 σ (a1H ρ fr)) p=some o∨H1 p=none)(dom:∀ p,H2 p=none→H1 p=none)(s0:i6 G (plus G H1 (m7 σ (a1H ρ fr)))):
  RS ⟨B.K,H1,H1,plus G H1 (m7 σ (a1H ρ fr)),fun _=>none,B.O⟩ Gb H2 (seen own fr σ) (U1 own fr ρ):=by
 refine ⟨i6.refl _,kp,sg,gb,gnew,dom,?_,fun i d e=>?_,fun i l d e=>?_,fun i j l d k e p a b=>?_,fun i es e=>?_,fun i l fds e=>?_,fun i fds e=>?_⟩
 ·rw [L2.seen_length]
  unfold U1
  simp
 ·obtain ⟨k,j,rfl,hk,⟨d',q,h⟩ | ⟨_,q,_⟩ | ⟨_,q,_⟩⟩:=T5 e <;> cases q
  refine Or.elim (h) (fun h=>?_) fun Z1=>g8 (Z1) fun l h=>?_
  ·refine c6 (R.sh j d h) fun v q1 q2=>?_
   exact ⟨v,a15 hk q1,(q2.same s0).same sg⟩
  ·refine x6 (R.ow j l d h) fun p q1 q2 q3 q4 q5=>?_
   have hp:p∈m7 σ (a1H ρ fr):=F2.mpr ⟨j,List.mem_filter.mpr ⟨List.mem_of_getElem? hk,by rw [h]⟩,q1⟩
   refine ⟨_,a15 hk q1,?_⟩
   cases d with
   | lst ds=>
    refine c6 (q5) fun xs e r=>?_
    have r':=(r.same s0).same sg
    exact .lst (L5.of (sg p _ (by rw [S7 hp]; exact e))) r'.len r'.get
   | dct es=>
    refine c6 (q5) fun xs e r=>?_
    have r':=(r.same s0).same sg
    exact .dct (.inl (sg p _ (by rw [S7 hp]; exact e))) r'.keys r'.get
   | _=>exact (show False from q5).elim
 ·obtain ⟨k,j,rfl,hk,⟨d',q,h⟩ | ⟨_,q,_⟩ | ⟨_,q,_⟩⟩:=T5 e <;> cases q
 ·obtain ⟨k,j,rfl,hk,⟨d',q,h⟩ | ⟨_,q,_⟩ | ⟨_,q,_⟩⟩:=T5 a <;> cases q
 ·obtain ⟨k,j,rfl,hk,⟨d',q,h⟩ | ⟨es',q,h⟩ | ⟨fds',q,h⟩⟩:=T5 e <;> cases q
  refine E5 (R.fz j es h) fun a o kvs q1 q2 q3=>?_
  exact ⟨a,o,kvs,a15 hk q1,sg _ _ (s0 _ _ q2),(q3.same s0).same sg⟩
 ·obtain ⟨k,j,rfl,hk,⟨d',q,h⟩ | ⟨es',q,h⟩ | ⟨fds',q,h⟩⟩:=T5 e <;> cases q
 ·obtain ⟨k,j,rfl,hk,⟨d',q,h⟩ | ⟨es',q,h⟩ | ⟨fds',q,h⟩⟩:=T5 e <;> cases q
  refine Or.elim (h) (fun h=>?_) fun Z1=>g8 (Z1) fun l h=>?_
  ·refine a9n (R.ob.2 j fds h) fun i0 j0 C p dx fs a1 a2 a3 a4=>?_
   exact ⟨i0,j0,C,p,dx,fs,a1,a15 hk a2,R.keep _ _ a3,(a4.same s0).same sg⟩
  ·refine a0F (R.ob.1 j l fds h) fun j0 C p dx fs a1 a2 a3 a4 a5 a6 a7 a8=>?_
   exact ⟨j,j0,C,p,dx,fs,a1,a15 hk a2,a6,(a7.same s0).same sg⟩
end
noncomputable abbrev X0:XP:=fun _ _ _=>False
section
variable {X:Cx}{B:Bs}{mi:M (List D)}{mt:M Bool}{me:M W}{own:Nat}{fr:List Nat}
theorem a7G {ξ:XP}{tf:TT}{te:TE}(hf:∀ B',B'.K=B.K∧B'.O=B.O→∀ σ H Q,TD a0L B' X0 mt σ H Q→tf σ H Q)(he:∀ B',B'.K=B.K∧B'.O=B.O→∀ σ H Q,TD C1 B' X0 me σ H Q→te σ H Q){σ:St}{H:Hp}{Q:VK}(t:TD C1 B ξ (D9 mi (N5 0) mt me 1 fr) σ H Q):
  a5M (TDI B ξ mi) (a27 0) tf te 1 fr σ H Q:=by
 refine l6 (t) fun G ρ R Z9=>c6 Z9 fun r e pq=>?_
 unfold D9 at e
 cases hm:mi ρ with
 | none=>rw [M.bind_none hm] at e; cases e
 | some r1=>
  cases r1 with
  | ex x ρ1=>
   rw [M.a3Q hm] at e
   cases e
   exact ⟨G,ρ,_,R,hm,pq⟩
  | ok ds ρ1=>
   rw [M.j8 hm] at e
   refine ⟨G,ρ,_,R,hm,fun J G1 H1 s1 R1 gv=>?_⟩
   unfold b3g at e
   cases hc:K6 (N5 0) mt me (U1 1 fr ρ1) ds with
   | none=>rw [hc] at e; cases e
   | some ys=>
    rw [hc] at e
    simp only [] at e
    refine f9 (z7 e) fun hz e=>?_
    have hbi:∀ i∈a1H ρ1 fr,∃ l d,ρ1[i]?=some (some (.ow l d)):=fun i hi=>(b2B hi).2
    have s0:i6 G1 (plus G1 H1 (m7 σ (a1H ρ1 fr))):=fun b o e=>by
     rw [O4 fun m=>?_]
     ·exact e
     ·refine c6 (F2.mp m) fun i hi e2=>?_
      refine A6 (hbi i hi) fun l d h=>?_
      refine j7 (R1.ow i l d h) fun p' a1 a2 _=>?_
      rw [e2] at a1
      cases a1
      rw [e] at a2
      cases a2
    have gH0:i6 (plus G1 H1 (m7 σ (a1H ρ1 fr))) H1:=fun b o e=>by
     by_cases m:b∈m7 σ (a1H ρ1 fr)
     ·rw [S7 m] at e; exact e
     ·rw [O4 m] at e; exact R1.gH b o e
    generalize hGp:plus G1 H1 (m7 σ (a1H ρ1 fr))=Gp at s0 gH0
    refine ⟨fun i m zs H2=>∃ Gb acc rest,m=ds.length - i∧i≤ds.length∧i6 Gp Gb∧i6 Gb H2∧i6 H1 H2∧(∀ p o,Gb p=some o→Gp p=some o∨H1 p=none)∧(∀ p,H2 p=none→H1 p=none)∧t6 B.K Gb zs acc∧acc.length≤i∧K6 (N5 0) mt me (U1 1 fr ρ1) (ds.drop i)=some rest∧acc++rest=ys,
     ⟨ds.length,Gp,[],ys,by simp,Nat.zero_le _,i6.refl _,gH0,i6.refl _,fun p o e=>.inl e,fun p e=>e,.nil,Nat.le_refl _,by simpa using hc,rfl⟩,?_⟩
    rintro i m zs H2 ⟨Gb,acc,rest,rfl,hle,a1,a2,a3,a4,a5,a6,a7,a8,a9⟩
    by_cases hlt:i < ds.length
    ·have ed:ds.drop i=ds[i]::ds.drop (i + 1):=List.drop_eq_getElem_cons hlt
     rw [ed] at a8
     unfold K6 at a8
     cases ht:compTurn (N5 0) mt me (U1 1 fr ρ1) ds[i] with
     | none=>rw [ht] at a8; cases a8
     | some oy=>
      cases hr:K6 (N5 0) mt me (U1 1 fr ρ1) (ds.drop (i + 1)) with
      | none=>rw [ht,hr] at a8; cases oy <;> cases a8
      | some rest'=>
       rw [ht,hr] at a8
       refine .inr ⟨gv.go Gb H2 i (s0.trans a1) a2 hlt,?_,fun zs' H'=>∃ Gb acc rest,i6 Gp Gb∧i6 Gb H'∧i6 H1 H'∧(∀ p o,Gb p=some o→Gp p=some o∨H1 p=none)∧(∀ p,H' p=none→H1 p=none)∧t6 B.K Gb zs' acc∧acc.length≤i + 1∧K6 (N5 0) mt me (U1 1 fr ρ1) (ds.drop (i + 1))=some rest∧acc++rest=ys,
        fun zs' H' Z9=>b7u Z9 fun Gb' acc' rest' b1 b2 b3 b4 b5 b6 b7 b8 b9=>⟨ds.length - (i + 1),by omega,Gb',acc',rest',rfl,hlt,b1,b2,b3,b4,b5,b6,b7,b8,b9⟩,fun x H' y=>?_⟩
       ·rw [a6.len,sizeLine_eq]; unfold small at hz; omega
       refine f9 (gv.yld Gb H2 H' i x (s0.trans a1) a2 hlt y) fun Z1 Z9=>c6 Z9 fun d hd rx=>?_; subst Z1
       have ed2:d=ds[i]:=by
        rw [List.getElem?_eq_getElem hlt] at hd
        exact (Option.some.inj hd).symm
       subst ed2
       have Rb:RS ⟨B.K,H1,H1,Gp,fun _=>none,B.O⟩ Gb H' (seen 1 fr σ) (U1 1 fr ρ1):=by
        subst hGp
        exact b19 R1 a1 a2 a3 a4 a5 s0
       unfold compTurn at ht
       cases hg:N5 0 ds[i] (U1 1 fr ρ1) with
       | none=>rw [hg] at ht; cases ht
       | some ρ2=>
        rw [hg] at ht
        simp only [] at ht
        have hg':=hg
        unfold N5 at hg'
        split at hg'
        ·rename_i hl0
         cases hg'
         have Rb2:=Rb.a9M hl0 rx
         show tf ((seen 1 fr σ).set 0 (some x)) H' _
         refine hf ⟨B.K,H1,H1,Gp,fun _=>none,B.O⟩ ⟨rfl,rfl⟩ _ _ _ ⟨Gb,_,Rb2,?_⟩
         cases hmt:mt ((U1 1 fr ρ1).set 0 (some (.sh ds[i]))) with
         | none=>rw [hmt] at ht; cases ht
         | some r3=>
          rw [hmt] at ht
          cases r3 with
          | ex x' ρ3=>cases ht
          | ok k ρ3=>
           refine ⟨_,hmt,fun k' G3 H3 s3 R3 qk=>?_⟩
           cases (show k'=k from qk)
           cases k with
           | false=>
            cases ht
            cases a8
            rw [if_neg Bool.false_ne_true]
            exact ⟨G3,acc,rest,a1.trans s3,R3.gH,R3.keep,R3.gnew,R3.dom,a6.same s3,by omega,hr,a9⟩
           | true=>
            rw [if_pos rfl]
            simp only [] at ht
            cases hme:M.bind me D3 ρ3 with
            | none=>rw [hme] at ht; cases ht
            | some r4=>
             rw [hme] at ht
             cases r4 with
             | ex x' ρ4=>cases ht
             | ok y' ρ4=>
              cases ht
              cases a8
              cases hm2:me ρ3 with
              | none=>rw [M.bind_none hm2] at hme; cases hme
              | some r5=>
               cases r5 with
               | ex x' ρ5=>rw [M.a3Q hm2] at hme; cases hme
               | ok w ρ5=>
                rw [M.j8 hm2] at hme
                refine he ⟨B.K,H1,H1,Gp,fun _=>none,B.O⟩ ⟨rfl,rfl⟩ _ _ _ ⟨G3,ρ3,R3,_,hm2,fun v G5 H5 s5 R5 q5=>?_⟩
                refine j7 (q5.D3 R5 hme) fun G6 s6 R6 r6=>?_
                have sa:=(s3.trans s5).trans s6
                exact ⟨G6,acc++[y'],rest',a1.trans sa,R6.gH,R6.keep,R6.gnew,R6.dom,(a6.same sa).append (.one r6),by rw [List.length_append]; show acc.length + 1≤i + 1; omega,hr,by rw [List.append_assoc]; exact a9⟩
        ·cases hg'
    ·have ei:i=ds.length:=by omega
     subst ei
     rw [List.drop_length] at a8
     cases a8
     rw [List.append_nil] at a9
     subst a9
     refine .inl ⟨gv.stop Gb H2 (s0.trans a1) a2,fun p hp=>?_⟩
     have gp:Gb p=none:=a2.free hp
     have sH:i6 H2 (upd H2 p (.lst zs)):=V1 hp _
     have A:After B.K (plus G1 H1 (m7 σ (a1H ρ1 fr))) H1 (m7 σ []) Gb (upd H2 p (.lst zs)) []:=by
      rw [hGp]
      refine ⟨fun b o e=>sH b o (a3 b o (G9 _ _ b o e)),a1,a2.trans sH,a4,fun b e=>?_,.nil⟩
      by_cases z:b=p
      ·subst z; exact a5 _ hp
      ·rw [j3 z] at e; exact a5 b e
     have rr:a6F B.K H1 Gb (upd H2 p (.lst zs)) (.ref p) (.own (.lst acc)):=⟨p,rfl,gp,a5 p hp,zs,l9,a6⟩
     split at e
     ·rename_i hfl
      cases e
      refine j7 (a0v (li:=[]) R1 hbi (fun i h=>by cases h) List.nodup_nil (fun i h=>by cases h) A rfl rr (.inl ⟨by rw [List.all_nil,Bool.and_true]; exact hfl,rfl⟩)) fun Gn sn Rn wn=>?_
      exact pq _ Gn _ (s1.trans sn) Rn wn
     ·refine c6 (Option.map_eq_some_iff.mp e) fun ρ3 hsh Z1=>?_; subst Z1
      refine j7 (a0v (li:=[]) R1 hbi (fun i h=>by cases h) List.nodup_nil (fun i h=>by cases h) A rfl rr (.inr hsh)) fun Gn sn Rn wn=>?_
      exact pq _ Gn _ (s1.trans sn) Rn wn
variable {x:Str}{px pos:Pos}{M':List Str}{scope:Scope}{iter elt:Expr}{ifs:List Expr}
theorem xe0 {Y:Cx}:∀ e s,XE Y X0 e s→False:=fun e s ⟨_,_,_,_,_,_,h⟩=>h
theorem X8 (Bk:Blk X scope (x::M') 1 fr)(hi:PDI X B (.Name x px) iter mi)(hf:∀ cl C s H ex H0 HK G0 L,PDF (X.blk scope cl C (x::M') s H ex) ⟨B.K,H0,HK,G0,L,B.O⟩ ifs mt)(he:∀ cl C s H ex H0 HK G0 L,PD (X.blk scope cl C (x::M') s H ex) ⟨B.K,H0,HK,G0,L,B.O⟩ elt me)
  (hc:autoParam (X.calm=true) m6._auto_1) (hx:autoParam (scope.names.lookup x=some .local∨scope.names.lookup x=some .cell) au0._auto_1) (hs:autoParam (∀ x,foldedSetIterable iter X.env x=pure x) au4._auto_1):PD X B (.ListComp elt [⟨.Name x px,iter,ifs,0⟩] scope pos) (D9 mi (N5 0) mt me 1 fr):=.mk fun ξ=>by
 have Bk':Blk (rz X ξ) scope (x::M') 1 fr:=⟨Bk.kind,Bk.cells,Bk.names,Bk.free,Bk.nd,Bk.len,Bk.at'⟩
 refine (b7j (X:=rz X ξ) (tf:=fun σ H Q=>∃ B',(B'.K=B.K∧B'.O=B.O)∧TD a0L B' X0 mt σ H Q) (te:=fun σ H Q=>∃ B',(B'.K=B.K∧B'.O=B.O)∧TD C1 B' X0 me σ H Q) Bk' (hi.ap ξ) (fun cl C s H ex=>?_) (fun cl C s H ex=>?_) hc hx hs).imp fun σ H Q t=>a7G (fun B' hB σ H Q t=>⟨B',hB,t⟩) (fun B' hB σ H Q t=>⟨B',hB,t⟩) t
 ·intro pins s' σ' H' Q I ⟨B',hB,t⟩
  obtain ⟨K',h0,hk,g0,l,ob⟩:=B'
  cases (show K'=B.K from hB.1)
  cases (show ob=B.O from hB.2)
  exact PF.U6 (X:=X.blk scope cl C (x::M') s H ex) ((hf cl C s H ex h0 hk g0 l).ap X0) xe0 pins s' σ' H' Q I t
 ·intro pins s' σ' H' Q I ⟨B',hB,t⟩
  obtain ⟨K',h0,hk,g0,l,ob⟩:=B'
  cases (show K'=B.K from hB.1)
  cases (show ob=B.O from hB.2)
  exact PE.U6 (X:=X.blk scope cl C (x::M') s H ex) ((he cl C s H ex h0 hk g0 l).ap X0) xe0 pins s' σ' H' Q I t
theorem a6p {i:Nat}{y:Str}{py spos:Pos}(Bk:Blk X scope (x::M') 1 fr)(hN:X.N.Nodup)(hi:PDI X B (.Name x px) iter mi)(hf:∀ cl C s H ex H0 HK G0 L,PDF (X.blk scope cl C (x::M') s H ex) ⟨B.K,H0,HK,G0,L,B.O⟩ ifs mt)(he:∀ cl C s H ex H0 HK G0 L,PD (X.blk scope cl C (x::M') s H ex) ⟨B.K,H0,HK,G0,L,B.O⟩ elt me)
  (hy:autoParam (X.N[i]?=some y) m6._auto_1) (hly:autoParam (X.env.kindOf y=some .local) m6._auto_1) (hc:autoParam (X.calm=true) m6._auto_1) (hx:autoParam (scope.names.lookup x=some .local∨scope.names.lookup x=some .cell) au0._auto_1)
  (hsw:autoParam (swapsWith (.ListComp elt [⟨.Name x px,iter,ifs,0⟩] scope pos) (some (.Name y py)) spos.line X.env=pure true) au5._auto_1)
  (hs:autoParam (∀ x,foldedSetIterable iter X.env x=pure x) au4._auto_1):PSD X B (.Assign [.Name y py] (.ListComp elt [⟨.Name x px,iter,ifs,0⟩] scope pos) spos) (u6 i (D9 mi (N5 0) mt me 1 fr)):=.mk fun ξ=>by
 have Bk':Blk (rz X ξ) scope (x::M') 1 fr:=⟨Bk.kind,Bk.cells,Bk.names,Bk.free,Bk.nd,Bk.len,Bk.at'⟩
 refine (b8z (X:=rz X ξ) (tf:=fun σ H Q=>∃ B',(B'.K=B.K∧B'.O=B.O)∧TD a0L B' X0 mt σ H Q) (te:=fun σ H Q=>∃ B',(B'.K=B.K∧B'.O=B.O)∧TD C1 B' X0 me σ H Q) Bk' hN (hi.ap ξ) (fun cl C s H ex=>?_) (fun cl C s H ex=>?_) hy hly hc hx hsw hs).imp fun Dn σ H t=>?_
 ·intro pins s' σ' H' Q I ⟨B',hB,t⟩
  obtain ⟨K',h0,hk,g0,l,ob⟩:=B'
  cases (show K'=B.K from hB.1)
  cases (show ob=B.O from hB.2)
  exact PF.U6 (X:=X.blk scope cl C (x::M') s H ex) ((hf cl C s H ex h0 hk g0 l).ap X0) xe0 pins s' σ' H' Q I t
 ·intro pins s' σ' H' Q I ⟨B',hB,t⟩
  obtain ⟨K',h0,hk,g0,l,ob⟩:=B'
  cases (show K'=B.K from hB.1)
  cases (show ob=B.O from hB.2)
  exact PE.U6 (X:=X.blk scope cl C (x::M') s H ex) ((he cl C s H ex h0 hk g0 l).ap X0) xe0 pins s' σ' H' Q I t
 ·refine l6 (t) fun G ρ R t=>?_
  refine a7G (fun B' hB σ H Q t=>⟨B',hB,t⟩) (fun B' hB σ H Q t=>⟨B',hB,t⟩) ((SD.step (rel:=C1) R t).mono fun v H1 Z9=>n6 Z9 fun G1 ρ1 w s1 R1 q1 Z9=>c6 Z9 fun r e p=>?_)
  refine i9 (a2K R1 q1 e) fun ρ' G' Z1 s' R'=>?_; subst Z1
  exact p _ G' H1 s' R'
end
end L3
set_option Elab.async false
set_option linter.all false
set_option maxRecDepth 100000
set_option maxHeartbeats 4000000
namespace L3
open PySem PySem.Spec PyProof.Rows L2
noncomputable def b5h:D→D→Option W
 | .dct es,k=>(keyOf k).map fun k=>W.val ((J3 es k).getD .w6)
 | _,_=>none
noncomputable def a67 (mo me:M W):M W:=M.bind (O3 mo) fun x=>M.bind (chk "dict" x) fun _=>M.bind me fun y=>op2 b5h x y
section
variable {X:Cx}{B:Bs}{o e f value:Expr}{mo me mf mv:M W}{mr:M (List W)}{apos cpos pos pos':Pos}
theorem b2m {K:PySem.W.Frag}{G:Hp}{kvs:List (Key×V)}{es:List (Key×D)}{k:Key}{z:V}{dz:D}(r:n5 K G kvs es)(hz:Rep K G z dz):Rep K G ((a02 kvs k).getD z) ((J3 es k).getD dz):=by
 refine f9 (r.val k) fun a b=>?_
 cases hd:J3 es k with
 | none=>rw [b hd]; exact hz
 | some d=>
  refine c6 (a d hd) fun v e rv=>?_
  rw [e]
  exact rv
theorem a8Z (hu:X.A.units + 8 < cLine)(ho:PD X B o mo)(he:PD X B e me)(m:autoParam (M1 X o "get" apos e cpos) au9._auto_1):PD X B (.Call (.Attribute o "get" apos) [e] [] cpos) (a67 mo me):=.mk fun ξ=>
 (b2u (X:=rz X ξ) (show X.A.units + 1 < cLine by omega) (ho.ap ξ) (he.ap ξ) ⟨m.base,m.few,m.line,m.trees⟩).imp fun σ H Q t=>by
  refine l6 (t) fun G ρ R t=>?_
  have t1:TD a3I B ξ (O3 mo) σ H _:=TD.bind (rel:=a3I) R t
  refine TD.O3 (t1.mono fun x H1 Z9=>n6 Z9 fun G1 ρ1 wa s1 R1 Z9 t2=>f9 Z9 fun q1 st1=>?_)
  obtain ⟨u,ρ2,e2,t3⟩:=t2.step fun r h=>⟨(),_,(a20 h).1⟩
  refine f9 (a20 e2) fun e3 Z9=>c6 Z9 fun d hd ty=>?_
  cases e3
  cases d <;> first | (cases ty; done) | (exact absurd ty (by decide)) | skip
  refine i9 ((q1.get R1 hd).dct R1.gH) fun a kvs Z1 h1 r1=>?_; subst Z1
  refine ⟨a,rfl,.inl ⟨kvs,h1⟩,?_⟩
  refine (TD.bind (rel:=C1) R1 t3).mono fun y H2 Z0=>n6 (Z0) fun G2 ρ2 wb s2 R2 q2 t4=>?_
  refine n6 (a9B t4) fun dx dy w e4 e5 e6 p=>?_
  have hx:=(q1.keep s2 st1:D4 B G2 H2 σ ρ2 _ wa).get R2 e4
  cases dx <;> first | (cases e6; done) | skip
  refine c6 (Option.map_eq_some_iff.mp e6) fun k hk Z1=>?_; subst Z1
  refine i9 (hx.dct R2.gH) fun a' kvs' ea h1' r1'=>?_
  cases ea
  have hv:=a2g (q2.get R2 e5) hk
  subst hv
  exact ⟨_,a0P.r h1',p _ G2 H2 (i6.refl _) R2 (b2m r1' .w6)⟩
end
noncomputable def a0X (i:Nat)(k d:D):SM:=fun ρ=>match ρ[i]? with
 | some (some (.ow l (.dct es)))=>match keyOf k with
  | some k=>grd (small es.length) (some (.nx (ρ.set i (some (.ow l (.dct (putD es k d)))))))
  | none=>none
 | some (some (.ow l (.lst ds)))=>match k with
  | .int j=>match ixN ds.length j with
   | some n=>some (.nx (ρ.set i (some (.ow l (.lst (ds.set n d))))))
   | none=>none
  | _=>none
 | _=>none
noncomputable def b0r (mo:M W)(i:Nat)(mv mk:M W):SM:=C3 (O3 mv) fun wv=>C3 mo fun _=>C3 mk fun wk=>C3 (D3 wv) fun d ρ=>match getD wk ρ with
 | some k=>a0X i k d ρ
 | none=>none
noncomputable abbrev a3v (i:Nat)(mv mk:M W):SM:=b0r (d8 i) i mv mk
noncomputable def b1N (i:Nat)(mo:M W):Prop:=∀ ρ w ρ',mo ρ=some (.ok w ρ')→w=.slot i∧ρ'=ρ
theorem b06 {i:Nat}:b1N i (d8 i):=fun _ _ _ h=>a2x h
theorem set_dict {X:Cx}(hu:X.A.units + 8 < cLine):a8L X (fun o i v H Q=>∃ a H',o=.ref a∧b2T H a i v H'∧Q H'):=by
 intro pins s σ H o i v ov iv u Q I ro ri rv h
 refine i9 (h) fun a H' Z1 g q=>?_; subst Z1
 cases ro
 exact b0d (by omega) I g ri rv fun s' I'=>⟨H',I',q⟩
theorem _root_.L2.a8L.or {X:Cx}{t t':b4G}(h:a8L X t)(h':a8L X t'):a8L X (fun o i v H Q=>t o i v H Q∨t' o i v H Q):=by
 intro pins s σ H o i v ov iv u Q I ro ri rv q
 refine Or.elim (q) (fun q=>?_) fun q=>?_
 ·exact h pins s σ H o i v ov iv u Q I ro ri rv q
 ·exact h' pins s σ H o i v ov iv u Q I ro ri rv q
section
variable {X:Cx}{B:Bs}{ξ:XP}{G H:Hp}{σ:St}{ρ:k9}{Dn:Ends}{o e value:Expr}{mo me mv:M W}{pos pos':Pos}
theorem SD.b76 {m:M W}{f:W→SM}(R:RS B G H σ ρ)(t:a6I B ξ G ρ (C3 (O3 m) f) Dn):TD C1 B ξ m σ H (fun v H1=>∃ G1 ρ1 a,i6 G G1∧RS B G1 H1 σ ρ1∧(D4 B G1 H1 σ ρ1 v a∧stb a=true)∧a6I B ξ G1 ρ1 (f a) Dn):=
 TD.O3 (SD.step (rel:=a3I) R t)
theorem SD.quiet {α:Type}{m:M α}{f:α→SM}(t:a6I B ξ G ρ (C3 m f) Dn)(hm:∀ r,m ρ=some r→∃ a ρ',r=.ok a ρ'):∃ a ρ',m ρ=some (.ok a ρ')∧a6I B ξ G ρ' (f a) Dn:=by
 refine c6 (t) fun r e p=>?_
 unfold C3 at e
 cases hr:m ρ with
 | none=>rw [hr] at e; cases e
 | some r1=>
  refine A6 (hm r1 hr) fun a ρ' Z1=>?_; subst Z1
  rw [hr] at e
  exact ⟨a,ρ',rfl,r,e,p⟩
theorem a4P (i:Nat)(hu:X.A.units + 8 < cLine)(hv:PD X B value mv)(ho:PD X B o mo)(hi:PD X B e me)(hm:autoParam (b1N i mo) b9v._auto_1)(hs:autoParam (swapsWithSole [.Subscript o e pos'] value pos.line X.env=pure false) m6._auto_1)(hw:autoParam (swappedStores [.Subscript o e pos'] value X.env=pure none) m6._auto_1)
  (h1:autoParam ((assignEach [.Subscript o e pos'] X.env).map (·.2)=[assign (.Subscript o e pos') X.env]) m6._auto_1)
  (ha:autoParam (∀ v,assign (.Subscript o e pos') X.env v=(do
   let ov ← holding [v] (eval o X.env)
   let iv ← holding [v,ov] (eval e X.env)
   standAt pos'
   holding [v,ov,iv] (setItem ov iv v)
   release [v,ov,iv] [])) au4._auto_1):PSD X B (.Assign [.Subscript o e pos'] value pos) (b0r mo i mv me):=.mk fun ξ=>
 (b5x (X:=rz X ξ) (hv.ap ξ) (b6S (X:=rz X ξ) (ho.ap ξ) (hi.ap ξ) (set_list.or (set_dict hu)) ha) hs hw h1).imp fun Dn σ H t=>by
  refine l6 (t) fun G ρ R t=>?_
  refine (SD.b76 R t).mono fun v H1 Z0=>?_
  refine n6 (Z0) fun G1 ρ1 wv s1 R1 Z2 t2=>?_
  refine f9 (Z2) fun q1 st1=>?_
  refine (SD.b75 (rel:=C1) R1 t2).mono fun x H2 Z0=>Y9 (Z0) fun G2 ρ2 wo er s2 R2 q2 t3=>?_
  refine f9 (hm _ _ _ er) fun Z1 Z2=>?_; subst Z1; subst Z2
  have hx:σ[i]?=some (some x):=q2
  refine (SD.step (rel:=C1) R2 t3).mono fun y H3 Z0=>n6 (Z0) fun G3 ρ3 wk s3 R3 q3 t4=>?_
  obtain ⟨d,ρ4,e4,r,er,p⟩:=SD.quiet t4 fun r h=>W3 h
  have q1':D4 B G3 H3 σ ρ3 v wv:=q1.keep (s2.trans s3) st1
  refine j7 (q1'.D3 R3 e4) fun G4 s4 R4 rv=>?_
  cases hk:getD wk ρ4 with
  | none=>simp only [hk] at er; cases er
  | some dk=>
   simp only [hk] at er
   have hy:L0 B.K G4 H3 y dk:=by
    cases wk with
    | val _=>exact D4.get R4 (q3.keep s4 rfl:D4 B G4 H3 σ ρ4 y _) hk
    | slot _=>exact D4.get R4 (q3.keep s4 rfl:D4 B G4 H3 σ ρ4 y _) hk
    | own d'=>
     cases hk
     unfold a0X at er
     exfalso
     refine x6 (q3) fun pp Z1 _ _ oo _=>?_; subst Z1
     cases dk <;> first | exact (show False from oo).elim | skip
     ·split at er
      ·simp [keyOf] at er
      ·cases er
      ·cases er
     ·split at er
      ·simp [keyOf] at er
      ·cases er
      ·cases er
   unfold a0X at er
   split at er
   ·rename_i l es hi
    split at er
    ·rename_i k hkk
     refine f9 (z7 er) fun hz er=>?_
     cases er
     refine j7 (slot_of R4 hi hx) fun pp Z1 g Z9=>c6 Z9 fun kvs hx' rl=>?_; subst Z1
     have hv':=a2g hy hkk
     subst hv'
     refine .inr ⟨pp,_,rfl,b2T.k hx' ?_,?_⟩
     ·rw [rl.len,sizeLine_eq]; unfold small at hz; omega
     ·exact p σ G4 _ s4 (R4.write hi hx ⟨_,l9,rl.put k rv⟩)
    ·cases er
   ·rename_i l ds hi
    split at er
    ·rename_i j
     split at er
     ·rename_i n hn
      cases er
      refine j7 (slot_of R4 hi hx) fun pp Z1 g Z9=>c6 Z9 fun xs hx' rl=>?_; subst Z1
      refine .inl ⟨pp,xs,j,n,rfl,hy.int,hx',by rw [rl.len]; exact hn,?_⟩
      exact p σ G4 _ s4 (R4.write hi hx ⟨_,l9,rl.set rv n⟩)
     ·cases er
    ·cases er
   ·cases er
end
noncomputable def intsOf:List D→Option (List Int)
 | []=>some []
 | .int i::ds=>(intsOf ds).map (i::·)
 | _=>none
theorem a5D:∀ {ds:List D} {ns:List Int},intsOf ds=some ns→ds=ns.map D.int
 | [],_,h=>by cases h; rfl
 | .int b::ds,bs,h=>by
  unfold intsOf at h
  refine c6 (Option.map_eq_some_iff.mp h) fun bs' e Z1=>?_; subst Z1
  rw [a5D e]
  rfl
 | .w6::_,_,h=>by cases h
 | .bl _::_,_,h=>by cases h
 | .str _::_,_,h=>by cases h
 | .ty _::_,_,h=>by cases h
 | .tup _::_,_,h=>by cases h
 | .lst _::_,_,h=>by cases h
 | .dct _::_,_,h=>by cases h
theorem b2P {K:PySem.W.Frag}{G:Hp}:∀ {ns:List Int} {xs:List V},t6 K G xs (ns.map D.int)→xs=ns.map V.int
 | [],[],_=>rfl
 | [],_::_,r=>by have:=r.len; simp at this
 | _::_,[],r=>by have:=r.len; simp at this
 | b::bs,x::xs,r=>by
  have h:=r.head
  cases h
  rw [b2P r.tail]
  rfl
end L3
namespace L3
open PySem PySem.Spec PyProof.Rows L2
noncomputable abbrev Z7:D→D→Option W:=b11
noncomputable abbrev a69:D→D→Option W:=b4Y
section
variable {X:Cx}{B:Bs}{e a b c:Expr}{ma mb mc:M W}{pos:Pos}
theorem b47 (hu:X.A.units + 8 < cLine)(ha:PD X B a ma)(hb:PD X B b mb)(hK:autoParam (X.K=B.K) m6._auto_1):PD X B (.Compare a [.Eq] [b] pos) (g9 Z7 ma mb):=b9h hu ha hb hK
theorem a4p (hu:X.A.units + 8 < cLine)(ha:PD X B a ma)(hb:PD X B b mb)(hK:autoParam (X.K=B.K) m6._auto_1):PDT X B (.Compare a [.Eq] [b] pos) (x9 (g9 Z7 ma mb)):=b9J hu ha hb hK
theorem b3o (hu:X.A.units + 8 < cLine)(ha:PD X B a ma)(hb:PD X B b mb)(hK:autoParam (X.K=B.K) m6._auto_1):PDT X B (.Compare a [.NotEq] [b] pos) (x9 (g9 a69 ma mb)):=b9i hu ha hb hK
end
end L3
set_option Elab.async false
set_option linter.all false
set_option maxRecDepth 100000
set_option maxHeartbeats 4000000
namespace L3
open PySem PySem.Spec PyProof.Rows L2
noncomputable def opM (f:D→List D→Option W)(x:W)(ws:List W):M W:=fun ρ=>match getD x ρ,R9 ws ρ with
 | some d,some ds=>(f d ds).map (R'.ok · ρ)
 | _,_=>none
noncomputable def mMt (T:String)(f:D→List D→Option W)(mo:M W)(m:M (List W)):M W:=M.bind (O3 mo) fun x=>M.bind (chk T x) fun _=>M.bind m fun ws=>opM f x ws
noncomputable def b7v (B:Bs)(r:V→List V→Hp→VK→Prop)(f:D→List D→Option W):Prop:=∀ {G H:Hp} {σ:St} {ρ:k9} {x:V} {dx:D} {xs:List V} {ds:List D} {w:W} {Q:VK},RS B G H σ ρ→L0 B.K G H x dx→a7d B.K G H xs ds→f dx ds=some w→
 (∀ v G' H',i6 G G'→RS B G' H' σ ρ→D4 B G' H' σ ρ v w→Q v H')→r x xs H Q
theorem b4S {B:Bs}{ξ:XP}{f:D→List D→Option W}{x:W}{ws:List W}{G:Hp}{ρ:k9}{σ:St}{Q:VK}(t:a0j C1 B ξ G ρ (opM f x ws) σ Q):∃ d ds w,getD x ρ=some d∧R9 ws ρ=some ds∧f d ds=some w∧∀ v G' H',i6 G G'→RS B G' H' σ ρ→D4 B G' H' σ ρ v w→Q v H':=by
 refine c6 (t) fun r e p=>?_
 unfold opM at e
 cases hx:getD x ρ with
 | none=>rw [hx] at e; cases e
 | some d=>
  cases hy:R9 ws ρ with
  | none=>rw [hx,hy] at e; cases e
  | some ds=>
   rw [hx,hy] at e
   simp only [] at e
   cases hf:f d ds with
   | none=>rw [hf] at e; cases e
   | some w=>
    rw [hf] at e
    cases e
    exact ⟨d,ds,w,rfl,rfl,hf,p⟩
section
variable {X:Cx}{B:Bs}{o e:Expr}{es:List Expr}{mo:M W}{mr:M (List W)}{apos cpos:Pos}{name:Str}{T id:String}
theorem b9j {r:V→List V→Hp→VK→Prop}{f:D→List D→Option W}(pa:PlainAttrs T)(slot:Slot T name id)(hty:typeOf (.builtin id)=pure (.type "method_descriptor")) (hm:∀ ξ,MtR (rz X ξ) id r) (hi:b7v B r f) (ho:PD X B o mo) (ha:PDA X B (e::es) mr)
  (hK:X.K=B.K)
  (hbase:attributeBase o name X.env (eval o X.env)=eval o X.env)
  (hfew:((backTo cpos (starEach (e::es) X.env)).all (fun x=>!x.1) && (backToKw cpos (keywordEach [] X.env)).all (fun x=>x.1.isSome)
   && decide ((e::es).length + ([]:List Keyword).length + (if ([]:List Keyword).isEmpty then 0 else 1) < 30))=true)
  (hline:(apos.endLine == cpos.line)=true) (hs:starEach (e::es) X.env=(false,eval e X.env)::starEach es X.env) (hplain:(backTo cpos (starEach es X.env)).any (·.1)=false) (hT:autoParam (T≠"dict") Y0._auto_1):
  PD X B (.Call (.Attribute o name apos) (e::es) [] cpos) (mMt T f mo mr):=.mk fun ξ=>
 (b3t (X:=rz X ξ) pa slot hty (hm ξ) (ho.ap ξ) (ha.ap ξ) hbase hfew hline hs hplain).imp fun σ H Q t=>by
  refine l6 (t) fun G ρ R t=>?_
  have t1:TD a3I B ξ (O3 mo) σ H _:=TD.bind (rel:=a3I) R t
  refine TD.O3 (t1.mono fun x H1 Z9=>n6 Z9 fun G1 ρ1 wa s1 R1 Z9 t2=>f9 Z9 fun q1 st1=>?_)
  obtain ⟨u,ρ2,e2,t3⟩:=t2.step fun r h=>⟨(),_,(a20 h).1⟩
  refine f9 (a20 e2) fun e3 Z9=>c6 Z9 fun d hd ty=>?_
  cases e3
  refine ⟨by show tyV X.K T x H1; rw [hK]; exact b25 R1 (q1.get R1 hd) ty hT,?_⟩
  refine (TD.bind (rel:=K7) R1 t3).mono fun vs H2 Z0=>n6 (Z0) fun G2 ρ2 ws s2 R2 q2 t4=>?_
  refine n6 (b4S t4) fun dx ds w e4 e5 e6 p=>?_
  exact hi R2 ((q1.keep s2 st1:D4 B G2 H2 σ ρ2 x wa).get R2 e4) (a0l R2 q2 e5) e6 p
end
end L3
set_option Elab.async false
set_option linter.all false
set_option maxRecDepth 100000
set_option maxHeartbeats 4000000
set_option Elab.async false
set_option linter.all false
set_option maxRecDepth 100000
set_option maxHeartbeats 4000000
namespace L3
open PySem L2
noncomputable def stW:W→W
 | .own d=>.val d
 | w=>w
section
variable {m ma mb mo mk mf:M W}{mr:M (List W)}{ρ ρ1 ρ2 ρ3 ρ4:k9}{w wa wb wc:W}{ws:List W}{d dx dy dz:D}{ds:List D}{i j:Nat}{k k2:Bool}{f:D→D→Option W}{s1 s2:SM}{r:Option SR}{c c1 c2:M Bool}
theorem a0b:getD (stW w) ρ=getD w ρ:=by cases w <;> rfl
theorem a1i (h:m ρ=some (.ok w ρ1)):O3 m ρ=some (.ok (stW w) ρ1):=by
 cases w with
 | own d=>exact b1A h
 | val d=>exact b3a h
 | slot i=>exact a90 h
theorem l8:mC d ρ=some (.ok (.val d) ρ):=rfl
theorem d7 {c:C}(h:ρ[i]?=some (some c)):d8 i ρ=some (.ok (.slot i) ρ):=by unfold d8; rw [h]
theorem i7 (ha:ma ρ=some (.ok wa ρ1))(hb:mb ρ1=some (.ok wb ρ2))(hx:getD wa ρ2=some dx)(hy:getD wb ρ2=some dy)(hf:f dx dy=some w):g9 f ma mb ρ=some (.ok w ρ2):=by
 unfold g9
 rw [M.j8 (a1i ha),M.j8 hb]
 unfold op2
 rw [a0b,hx,hy]
 simp only [hf,Option.map_some]
theorem a0Y {f:D→Option W}(ha:ma ρ=some (.ok wa ρ1))(hx:getD wa ρ1=some dx)(hf:f dx=some w):mUn f ma ρ=some (.ok w ρ1):=by
 unfold mUn
 rw [M.j8 ha]
 unfold op1
 rw [hx]
 simp only [hf,Option.map_some]
theorem j4:j5 ρ=some (.ok [] ρ):=rfl
theorem d9 (ha:ma ρ=some (.ok wa ρ1))(hb:mr ρ1=some (.ok ws ρ2)):c9 ma mr ρ=some (.ok (stW wa::ws) ρ2):=by
 unfold c9
 rw [M.j8 (a1i ha),M.j8 hb]
 rfl
theorem C4 {f:List D→Option W}(ha:mr ρ=some (.ok ws ρ1))(hx:R9 ws ρ1=some ds)(hf:f ds=some w):E3 f mr ρ=some (.ok w ρ1):=by
 unfold E3
 rw [M.j8 ha]
 unfold opN
 rw [hx]
 simp only [hf,Option.map_some]
theorem L8 {ms:List Bool}{fm:List D→Option FR}{fin:List D}(ha:mr ρ=some (.ok ws ρ1))(hx:K9 ms ws ρ1=some ds)(hp:a6t (F1 ms ws) (a0i ρ1 ms ws)=true)(hf:fm ds=some (.ret w fin))(hs:a85 (F1 ms ws) fin ρ1=some ρ2)
  (he:(a5y w && fin.all a0d)=true):w5 ms fm mr ρ=some (.ok w ρ2):=by
 unfold w5
 rw [M.j8 ha]
 unfold a9N
 rw [hx]
 simp only []
 rw [if_pos hp,hf]
 simp only [hs]
 rw [if_pos he]
theorem G8 {ms:List Bool}{fm:List D→Option FR}{fin:List D}(ha:mr ρ=some (.ok ws ρ1))(hx:K9 ms ws ρ1=some ds)(hp:a6t (F1 ms ws) (a0i ρ1 ms ws)=true)(hf:fm ds=some (.ret w fin))(hs:a85 (F1 ms ws) fin ρ1=some ρ2)
  (he:a0i ρ1 ms ws=[]):w5 ms fm mr ρ=some (.ok w ρ2):=by
 unfold w5
 rw [M.j8 ha]
 unfold a9N
 rw [hx]
 simp only []
 rw [if_pos hp,hf]
 simp only [hs]
 split
 ·rfl
 ·rw [he]
  rfl
theorem A0 (ha:m ρ=some (.ok (.val (.bl k)) ρ1)):x9 m ρ=some (.ok k ρ1):=by unfold x9; rw [M.j8 ha]
theorem Y5 (ha:m ρ=some (.ok w ρ1))(hx:getD w ρ1=some d)(hf:b3z d=some k):a01 m ρ=some (.ok k ρ1):=by
 unfold a01
 rw [M.j8 ha]
 simp only [hx,hf,Option.map_some]
theorem a8k (ha:c1 ρ=some (.ok k ρ1))(hb:c2 ρ1=some (.ok k2 ρ1)):a46 c1 c2 ρ=some (.ok (k && k2) ρ1):=by
 unfold a46
 rw [M.j8 ha]
 cases k with
 | true=>exact hb
 | false=>rfl
theorem b4c (ha:c1 ρ=some (.ok k ρ1))(hk:k=false):a46 c1 c2 ρ=some (.ok false ρ1):=by
 subst hk
 unfold a46
 rw [M.j8 ha]
 rfl
theorem a8C {rr:Option (R' Bool)}(ha:c1 ρ=some (.ok k ρ1))(hk:k=false)(hb:c2 ρ1=rr):mOr c1 c2 ρ=rr:=by
 subst hk
 unfold mOr
 rw [M.j8 ha]
 exact hb
theorem b1l (ha:c1 ρ=some (.ok k ρ1)):b3q c1 ρ=some (.ok (!k) ρ1):=by unfold b3q; rw [M.j8 ha]; rfl
theorem b7P (hx:getD w ρ=some (.bl k)):mBl w ρ=some (.ok k ρ):=by unfold mBl; rw [hx]
theorem b3s {rr:Option (R' W)}(ha:ma ρ=some (.ok wa ρ1))(hx:getD wa ρ1=some (.bl k))(hk:k=true)(hb:mb ρ1=rr):a5q ma mb ρ=rr:=by
 subst hk
 unfold a5q
 rw [M.j8 ha,M.j8 (b7P hx)]
 exact hb
theorem O7 (ha:mr ρ=some (.ok ws ρ1))(hl:U9 ws ρ1=some (.ok ds ρ2))(hz:small ds.length):Q8 mr ρ=some (.ok (.val (.tup ds)) ρ2):=by
 unfold Q8
 rw [M.j8 ha,M.j8 hl]
 exact A4 hz
theorem U3 (ha:mr ρ=some (.ok ws ρ1))(hl:U9 ws ρ1=some (.ok ds ρ2))(hz:small ds.length):a0N mr ρ=some (.ok (.own (.lst ds)) ρ2):=by
 unfold a0N
 rw [M.j8 ha,M.j8 hl]
 exact A4 hz
theorem b0K {l:Bool}{ds0:List D}(h0:ρ[i]?=some (some (.ow l (.lst ds0))))(ha:mr ρ=some (.ok [w] ρ1))(hl:D3 w ρ1=some (.ok d ρ2))(h1:ρ2[i]?=some (some (.ow l (.lst ds))))(hz:small ds.length):
  O5 i mr ρ=some (.ok (.val .w6) (ρ2.set i (some (.ow l (.lst (ds++[d])))))):=by
 unfold O5
 have hc:chk "list" (.slot i) ρ=some (.ok () ρ):=by
  unfold chk getD
  simp only [h0]
  rfl
 rw [M.j8 (d7 h0),M.j8 hc,M.j8 ha]
 show M.bind (D3 w) (a2e i) ρ1=_
 rw [M.j8 hl]
 unfold a2e
 rw [h1]
 exact A4 hz
theorem b40 {es es2:List (Key×D)}{kk:Key}(ha:mo ρ=some (.ok wa ρ1))(h0:getD wa ρ1=some (.dct es2))(hb:mk ρ1=some (.ok wb ρ2))(hx:getD wa ρ2=some (.dct es))(hy:getD wb ρ2=some dy)(hk:keyOf dy=some kk):a67 mo mk ρ=some (.ok (.val ((J3 es kk).getD .w6)) ρ2):=by
 unfold a67
 have hc:chk "dict" (stW wa) ρ1=some (.ok () ρ1):=by
  unfold chk
  rw [a0b,h0]
  rfl
 rw [M.j8 (a1i ha),M.j8 hc,M.j8 hb]
 unfold op2
 rw [a0b,hx,hy]
 simp only [b5h,hk,Option.map_some]
theorem b8h {T:String}{f:D→List D→Option W}(ha:mo ρ=some (.ok wa ρ1))(h0:getD wa ρ1=some d)(ht:tyD T d=true)(hb:mr ρ1=some (.ok ws ρ2))(hx:getD wa ρ2=some dx)(hy:R9 ws ρ2=some ds)(hf:f dx ds=some w):mMt T f mo mr ρ=some (.ok w ρ2):=by
 unfold mMt
 have hc:chk T (stW wa) ρ1=some (.ok () ρ1):=by
  unfold chk
  rw [a0b,h0]
  simp only [ht,if_true]
 rw [M.j8 (a1i ha),M.j8 hc,M.j8 hb]
 unfold opM
 rw [a0b,hx,hy]
 simp only [hf,Option.map_some]
theorem b4b {n:Int}(ha:m ρ=some (.ok w ρ1))(hx:getD w ρ1=some (.int n)):a7F m ρ=some (.ok (some n) ρ1):=by
 unfold a7F
 rw [M.j8 ha]
 simp only [hx]
theorem b7S:(M.pure none:M (Option Int)) ρ=some (.ok none ρ):=rfl
theorem b7y {ml mh:M (Option Int)}{lo hi:Option Int}(ha:ma ρ=some (.ok wa ρ1))(hl:ml ρ1=some (.ok lo ρ2))(hh:mh ρ2=some (.ok hi ρ3))(hx:getD wa ρ3=some dx)(hf:slD dx lo hi=some w):mSl ma ml mh ρ=some (.ok w ρ3):=by
 unfold mSl
 rw [M.j8 (a1i ha),M.j8 hl,M.j8 hh]
 unfold op1
 rw [a0b,hx]
 simp only [hf,Option.map_some]
theorem i8 (h1:s1 ρ=some (.nx ρ1))(h2:s2 ρ1=r):p6 s1 s2 ρ=r:=by rw [b3Z h1]; exact h2
theorem X6 (h1:s1 ρ=some (.rt w ρ1)):p6 s1 s2 ρ=some (.rt w ρ1):=by unfold p6; rw [h1]
theorem P4:nxS ρ=some (.nx ρ):=rfl
theorem r8 (ha:m ρ=some (.ok w ρ1))(hs:a2U i w ρ1=some (.nx ρ2)):u6 i m ρ=some (.nx ρ2):=by unfold u6; rw [u5 ha]; exact hs
theorem E7 {sr:SR}(ha:m ρ=some (.ok w ρ1))(hs:b5w w ρ1=some sr):retS m ρ=some sr:=by unfold retS; rw [u5 ha]; exact hs
theorem a3O (ha:m ρ=some (.ok w ρ1)):V0 m ρ=some (.nx ρ1):=by unfold V0; rw [u5 ha]; rfl
theorem M9 (hc:c ρ=some (.ok k ρ1))(hk:k=true)(h:s1 ρ1=r):ifS c s1 s2 ρ=r:=by subst hk; unfold ifS; rw [u5 hc]; exact h
theorem A7 (hc:c ρ=some (.ok k ρ1))(hk:k=false)(h:s2 ρ1=r):ifS c s1 s2 ρ=r:=by subst hk; unfold ifS; rw [u5 hc]; exact h
theorem a2N (hv:m ρ=some (.ok wa ρ1)){c0:C}(h0:ρ1[i]?=some (some c0))(hk:mk ρ1=some (.ok wb ρ2))(hl:D3 (stW wa) ρ2=some (.ok d ρ3))(hy:getD wb ρ3=some dy)(hp:a0X i dy d ρ3=r):a3v i m mk ρ=r:=by
 unfold a3v b0r
 rw [u5 (a1i hv),u5 (d7 h0),u5 hk,u5 hl]
 simp only [hy]
 exact hp
theorem a2S {mi:M (List D)}{tg:FT}(hi:mi ρ=some (.ok ds ρ1))(h:forL tg s1 ds ρ1=r):a2Q mi tg s1 ρ=r:=by unfold a2Q; rw [u5 hi]; exact h
theorem a8A {g:List D→Option (List D)}{es:List D}(ha:mr ρ=some (.ok ws ρ1))(hx:R9 ws ρ1=some ds)(hf:g ds=some es):a0O g mr ρ=some (.ok es ρ1):=by
 unfold a0O
 rw [M.j8 ha]
 simp only [hx,hf,Option.map_some]
theorem M0 {es:List D}(ha:m ρ=some (.ok w ρ1))(hl:D3 w ρ1=some (.ok d ρ2))(hf:itD d=some es):C9 m ρ=some (.ok es ρ2):=by
 unfold C9
 rw [M.j8 ha,M.j8 hl]
 simp only [hf,Option.map_some]
theorem O6 {mi:M (List D)}{tg:FT}{mt:M Bool}{me:M W}{own:Nat}{fr:List Nat}{ys:List D}(hi:mi ρ=some (.ok ds ρ1))(hz:small ds.length)(hc:K6 tg mt me (U1 own fr ρ1) ds=some ys)(hf:ys.all Q6=true∨a1H ρ1 fr=[]):D9 mi tg mt me own fr ρ=some (.ok (.own (.lst ys)) ρ1):=by
 unfold D9
 rw [M.j8 hi]
 unfold b3g
 rw [hc]
 simp only []
 rw [A4 hz]
 refine Or.elim (hf) (fun hf=>?_) fun hf=>?_
 ·rw [if_pos hf]
 ·split
  ·rfl
  ·rw [hf]
   rfl
theorem K8 {den:SM}{n:Nat}{ms:List Bool}{sr:SR}{fr:FR}(h:den (A1 n ms ds)=some sr)(ho:a8u ms sr=some fr):z9 den n ms ds=some fr:=by unfold z9; rw [h]; exact ho
theorem a1f {a b:Int}(h:a60 a b):a17 (.int a) (.int b)=some (.val (.int (a * b))):=A4 h
theorem a6P {a b:Int}(h:b0y a b):b0E (.int a) (.int b)=some (.val (.int (a / b))):=A4 h
theorem M3 {a b:Int}(h:0 < b):a0e (.int a) (.int b)=some (.val (.int (a % b))):=A4 h
end
end L3
set_option Elab.async false
set_option linter.all false
set_option maxRecDepth 100000
set_option maxHeartbeats 4000000
namespace L3
open PySem PySem.Spec PyProof.Rows L2
noncomputable def a3l (ns:List Int):List Int:=ns.mergeSort fun a b=>decide (a≤b)
theorem a4s (ns:List Int):(a3l ns).Perm ns:=List.mergeSort_perm _ _
theorem b1X (ns:List Int):(a3l ns).Pairwise (·≤·):=by
 have:=List.pairwise_mergeSort (le:=fun a b:Int=>decide (a≤b)) (fun a b c h1 h2=>by simp at *; omega) (fun a b=>by simp; omega) ns
 exact this.imp fun h=>by simpa using h
theorem a7r {ns ms:List Int}(hp:ms.Perm ns)(hs:ms.Pairwise (·≤·)):ms=a3l ns:=by
 have h:=hp.trans (a4s ns).symm
 exact List.Perm.eq_of_pairwise (le:=(·≤·)) (fun a b _ _ h1 h2=>Int.le_antisymm h1 h2) hs (b1X ns) h
section
variable {X:Cx}
theorem a6c {K:PySem.W.Frag}(hK:X.K=K):F8 X (.builtin "sorted") (fun xs H Q=>∃ (p:Addr) (ns:List Int),xs=[.ref p]∧L5 K H p (ns.map V.int)∧ns.length < 64∧∀ l,H l=none→Q (.ref l) (upd H l (.lst ((a3l ns).map V.int)))):=by
 subst hK
 intro pins s σ H xs us Q I r h
 refine R8 (h) fun p ns Z1 hq hz q=>?_; subst Z1
 refine c6 (vals1 r) fun u Z1 rx=>?_; subst Z1
 cases rx
 refine j7 (I.list hq) fun its rv pl _=>?_
 have hl:=rv.length
 rw [List.length_map] at hl
 refine sorted_ints pl.isList (intsAre_of rv) (by omega) fun out ns' a1 a2 a3=>?_
 have hs:=a7r a2 a3
 subst hs
 refine g8 (sortedAll_at s.heap its out) fun e he=>?_
 refine ⟨.ref (s.heap.objs.size + 1),_,I.laid (a:=s.heap.objs.size + 1) (o:=.lst ((a3l ns).map V.int)) (t':=s.toks) (fun b o e=>sortedAll_old e) (Nat.le_succ _) ⟨?_,out.toList,e,?_,?_⟩,rfl,q _ (I.hok.fresh (Nat.le_succ _))⟩
 ·rw [List.length_map,(a4s ns).length_eq,sizeLine_eq]
  omega
 ·exact a2D a1
 ·rw [he]
end
noncomputable def a2p:List D→Option W
 | [.lst ds]=>(intsOf ds).bind fun ns=>grd (ns.length < 64) (some (.own (.lst ((a3l ns).map D.int))))
 | _=>none
section
variable {X:Cx}{B:Bs}{e f:Expr}{mr:M (List W)}{pos p:Pos}
theorem a7n:a13 B (fun xs H Q=>∃ (p:Addr) (ns:List Int),xs=[.ref p]∧L5 B.K H p (ns.map V.int)∧ns.length < 64∧∀ l,H l=none→Q (.ref l) (upd H l (.lst ((a3l ns).map V.int)))) a2p:=by
 intro G H σ ρ xs ds w Q R h e p
 match ds,e with
 | [.lst ds],e=>
  cases hb:intsOf ds with
  | none=>
   have e':(intsOf ds).bind _=some w:=e
   rw [hb] at e'
   cases e'
  | some ns=>
   have e':(intsOf ds).bind _=some w:=e
   rw [hb] at e'
   refine f9 (z7 e') fun hz e'=>?_
   cases e'
   refine c6 (F0 h) fun x Z1 hx=>?_; subst Z1
   rw [a5D hb] at hx
   refine i9 (hx.lst R.gH) fun q ys Z1 h1 r1=>?_; subst Z1
   rw [b2P r1] at h1
   refine ⟨q,ns,rfl,h1,hz,fun l hl=>?_⟩
   refine f9 (R.a1Q hl (t6.a3L (K:=B.K) (G:=G) (a3l ns))) fun R' w'=>?_
   exact p _ G _ (i6.refl _) R' w'
theorem b2k (hc:X.calm=true)(hm:X.mg "sorted"=none) (ha:PDA X B [e] mr) (hg:autoParam (Gl X "sorted") m6._auto_1) (hK:autoParam (X.K=B.K) m6._auto_1) (he:autoParam (starEach [e] X.env=(false,eval e X.env)::starEach [] X.env) m6._auto_1) (hpl:autoParam ((backTo pos (starEach [] X.env)).any (·.1)=false) m6._auto_1):PD X B (.Call (.Name "sorted" p) [e] [] pos) (E3 a2p mr):=
 a16 (fun ξ=>a6c (X:=rz X ξ) (K:=B.K) hK) a7n hg hm PyProof.Rows.boot_sorted ha (by decide) (by decide) he hpl
end
end L3
set_option Elab.async false
set_option linter.all false
set_option maxRecDepth 100000
set_option maxHeartbeats 4000000
set_option Elab.async false
set_option linter.all false
set_option maxRecDepth 100000
set_option maxHeartbeats 4000000
namespace L3
open PySem PySem.Spec PyProof.Rows L2
noncomputable def a6w:SM:=fun _=>none
theorem a5X {X:Cx}{B:Bs}{st:Stmt}:PSD X B st a6w:=.mk fun ξ=>(b1y (X:=rz X ξ)).imp fun Dn σ H t=>by
 refine l6 (t) fun G ρ R Z9=>c6 Z9 fun r e p=>?_
 cases e
noncomputable def b2J (i:Nat)(me:M W):SM:=fun ρ=>match ρ[i]? with
 | some (some _)=>C3 me (fun y ρ=>match getD (.slot i) ρ,getD y ρ with
  | some (.int a),some (.int b)=>a2U i (.val (.int (a + b))) ρ
  | _,_=>none) ρ
 | _=>none
section
variable {X:Cx}{B:Bs}{e:Expr}{me:M W}{pos:Pos}
theorem b23 {i:Nat}{x:Str}{pos':Pos}(he:PD X B e me)(hN:X.N.Nodup)(hi:autoParam (X.N[i]?=some x) m6._auto_1)(hx:autoParam (Loc X.env.scope x) au0._auto_1)(hf:autoParam (X.fn x=true∨X.env.scope.names.lookup x=some .local) au0._auto_1):
  PSD X B (.AugAssign (.Name x pos') .Add e pos) (b2J i me):=.mk fun ξ=>(b5G (X:=rz X ξ) hN hi hx (he.ap ξ) b6n hf).imp fun Dn σ H t=>by
 refine l6 (t) fun G ρ R Z9=>c6 Z9 fun r e p=>?_
 unfold b2J at e
 split at e
 ·rename_i c h0
  have hv:∃ v,σ[i]?=some (some v):=by
   cases c with
   | sh d=>refine c6 (R.sh i d h0) fun v q _=>?_; exact ⟨v,q⟩
   | ow l d=>refine c6 (R.ow i l d h0) fun v q _=>?_; exact ⟨_,q⟩
   | fz es=>refine D0 (R.fz i es h0) fun a o kvs q _=>?_; exact ⟨_,q⟩
   | ob l fds=>refine b5p (R.ob.1 i l fds h0) fun _ _ _ _ _ _ q _=>?_; exact ⟨_,q⟩
   | rd fds=>refine b5j (R.ob.2 i fds h0) fun _ _ _ _ _ _ _ q _=>?_; exact ⟨_,q⟩
  refine g8 (hv) fun v hv=>?_
  refine ⟨v,hv,?_⟩
  refine (SD.step (rel:=C1) R ⟨r,e,p⟩).mono fun y H1 Z0=>n6 (Z0) fun G1 ρ1 w s1 R1 q1 Z9=>c6 Z9 fun r e p=>?_
  dsimp only at e
  split at e
  ·rename_i a b ha hb
   refine i9 (a2K (v:=.int (a + b)) R1 (show D4 B G1 H1 σ ρ1 (.int (a + b)) (.val (.int (a + b))) from Rep.int _) e) fun ρ' G' Z1 s' R'=>?_; subst Z1
   exact ⟨a,b,((show D4 B G1 H1 σ ρ1 v (.slot i) from hv).get R1 ha).int,(q1.get R1 hb).int,p _ G' H1 s' R'⟩
  ·cases e
 ·cases e
end
section
variable {me ma mb:M W}{ρ ρ1 ρ2:k9}{w:W}{i:Nat}{a b:Int}
theorem b6C {c:C}(h0:ρ[i]?=some (some c))(hm:me ρ=some (.ok w ρ1))(hx:getD (.slot i) ρ1=some (.int a))(hy:getD w ρ1=some (.int b))(hs:a2U i (.val (.int (a + b))) ρ1=some (.nx ρ2)):b2J i me ρ=some (.nx ρ2):=by
 unfold b2J
 rw [h0]
 show C3 me _ ρ=_
 rw [u5 hm]
 simp only [hx,hy]
 exact hs
end
noncomputable def a1C (d:D):List D→Option (List Bool)
 | []=>some []
 | y::ys=>match eqD 7 y d,a1C d ys with
  | some a,some b=>some (a::b)
  | _,_=>none
theorem b1V {d:D}:∀ {ds:List D} {bs:List Bool},a1C d ds=some bs→∃ b,inL d ds=some b
 | [],_,_=>⟨false,rfl⟩
 | y::ys,bs,h=>by
  unfold a1C at h
  cases h1:eqD 7 y d with
  | none=>rw [h1] at h; cases h
  | some p=>
   cases h2:a1C d ys with
   | none=>rw [h1,h2] at h; cases h
   | some q=>
    refine g8 (b1V h2) fun b hb=>?_
    exact ⟨p || b,by unfold inL; rw [h1,hb]⟩
noncomputable def P9:List Bool→Option Nat
 | []=>none
 | true::_=>some 0
 | false::r=>(P9 r).map (· + 1)
theorem a5i:∀ {bs:List Bool} {j:Nat},P9 bs=some j→bs[j]?=some true∧∀ m,m < j→bs[m]?=some false
 | [],_,h=>by cases h
 | true::_,_,h=>by cases h; exact ⟨rfl,fun m hm=>by omega⟩
 | false::r,j,h=>by
  unfold P9 at h
  refine c6 (Option.map_eq_some_iff.mp h) fun k hk Z1=>?_; subst Z1
  refine f9 (a5i hk) fun h1 h2=>?_
  refine ⟨by simpa using h1,fun m hm=>?_⟩
  cases m with
  | zero=>rfl
  | succ m=>simpa using h2 m (by omega)
section
variable {X:Cx}{pins:List (Addr×Obj)}{σ:St}{H:Hp}{s:Shared}
theorem a9J (I:Inv X pins σ H s){d:D}:∀ {ds:List D} {xs:List V} {us:List Value} {bs:List Bool},a1C d ds=some bs→t6 X.K H xs ds→Vals xs us→us.map (N2 X.K H d)=bs
 | [],[],us,b,h,_,v=>by cases v; cases h; rfl
 | [],_::_,_,_,_,r,_=>by have:=r.len; simp at this
 | _::_,[],_,_,_,r,_=>by have:=r.len; simp at this
 | e::ds,x::xs,us,b,h,r,v=>by
  cases v with
  | cons r1 v=>
   unfold a1C at h
   cases h1:eqD 7 e d with
   | none=>rw [h1] at h; cases h
   | some p=>
    cases h2:a1C d ds with
    | none=>rw [h1,h2] at h; cases h
    | some q=>
     rw [h1,h2] at h
     cases h
     rw [List.map_cons,a4I I r1 r.head h1,a9J I h2 r.tail v]
end
theorem b0m {X:Cx}{K:PySem.W.Frag}(hK:X.K=K)(hu:X.A.units + 8 < cLine):MtR X "list.index" (fun x xs H Q=>∃ p ys ds y d bs j,x=.ref p∧xs=[y]∧Rep K H y d∧L5 K H p ys∧t6 K H ys ds∧a1C d ds=some bs∧P9 bs=some j∧Q (.int ((j:Nat):Int)) H):=by
 subst hK
 intro pins s σ H x xs v us Q I rx rv h
 refine b7X (h) fun p ys ds y d bs j Z1 Z2 hy hq hr hb hj q=>?_; subst Z1; subst Z2
 cases rx
 refine c6 (vals1 rv) fun u Z1 ru=>?_; subst Z1
 refine j7 (I.list hq) fun its r pl hz=>?_
 refine g8 (b1V hb) fun b hb'=>?_
 obtain ⟨⟨cls,dd,data,sl⟩,n,ho,hc,hdd,hd⟩:=pl
 simp only at hc hd hdd
 subst hc hd hdd
 have e:=a9J I hb hr r
 refine f9 (a5i hj) fun h1 h2=>?_
 have hjl:j < its.length:=by
  have:=(List.getElem?_eq_some_iff.mp h1).1
  rw [← e] at this
  simpa using this
 have hit:N2 X.K H d its.toArray[j]=true:=by
  rw [← e,List.getElem?_map,List.getElem?_eq_getElem hjl] at h1
  simpa using h1
 have hno:∀ m (hm:m < its.toArray.size),m < j→N2 X.K H d its.toArray[m]=false:=by
  intro m hm hlt
  have h3:=h2 m hlt
  rw [← e,List.getElem?_map,List.getElem?_eq_getElem (by simpa using hm)] at h3
  simpa using h3
 have hl:=r.length
 rw [sizeLine_eq] at hz
 refine call_meets PySem.F.slot_list_index ⟨_,ho,rfl⟩ PySem.F.entry_list_index (PySem.F.args_list_index_2 _ _) (SeqAt.list_indexAt p its.toArray n none sl u (N2 X.K H d) j (by simpa using hjl) (by omega) hit hno) ⟨ho,fun w hw=>a1g I hy ru (by show X.A.units + 1 + 7 < _; omega) hb' hr r w (by simpa using hw),?_⟩
 exact ⟨.int _,H,I.tok _,⟨_,rfl⟩,q⟩
noncomputable def a4z:D→List D→Option W
 | .lst ds,[d]=>(a1C d ds).bind fun bs=>(P9 bs).bind fun j=>vI ((j:Nat):Int)
 | _,_=>none
section
variable {X:Cx}{B:Bs}{o e:Expr}{mo:M W}{mr:M (List W)}{apos cpos:Pos}
theorem a8d:b7v B (fun x xs H Q=>∃ p ys ds y d bs j,x=.ref p∧xs=[y]∧Rep B.K H y d∧L5 B.K H p ys∧t6 B.K H ys ds∧a1C d ds=some bs∧P9 bs=some j∧Q (.int ((j:Nat):Int)) H) a4z:=by
 intro G H σ ρ x dx xs ds w Q R hx h e p
 match dx,ds,e with
 | .lst ds,[d],e=>
  refine c6 (F0 h) fun y Z1 hy=>?_; subst Z1
  have e:(a1C d ds).bind (fun bs=>(P9 bs).bind fun j=>vI ((j:Nat):Int))=some w:=e
  cases hb:a1C d ds with
  | none=>rw [hb] at e; cases e
  | some bs=>
   rw [hb] at e
   have e:(P9 bs).bind (fun j=>vI ((j:Nat):Int))=some w:=e
   cases hj:P9 bs with
   | none=>rw [hj] at e; cases e
   | some j=>
    rw [hj] at e
    cases e
    refine i9 (hx.lst R.gH) fun q ys Z1 h1 r1=>?_; subst Z1
    exact ⟨q,ys,ds,y,d,bs,j,rfl,rfl,hy.rep R.gH,h1,r1.same R.gH,hb,hj,p _ G H (i6.refl _) R (.int _)⟩
theorem b4f (hu:X.A.units + 8 < cLine)(ho:PD X B o mo)(ha:PDA X B [e] mr)(hK:autoParam (X.K=B.K) m6._auto_1)(hbase:autoParam (attributeBase o "index" X.env (eval o X.env)=eval o X.env) m6._auto_1)
  (hfew:autoParam (((backTo cpos (starEach [e] X.env)).all (fun x=>!x.1) && (backToKw cpos (keywordEach [] X.env)).all (fun x=>x.1.isSome) && decide (([e]:List Expr).length + ([]:List Keyword).length + (if ([]:List Keyword).isEmpty then 0 else 1) < 30))=true) m6._auto_1)
  (hline:autoParam ((apos.endLine == cpos.line)=true) m6._auto_1) (hs:autoParam (starEach [e] X.env=(false,eval e X.env)::starEach [] X.env) m6._auto_1) (hplain:autoParam ((backTo cpos (starEach [] X.env)).any (·.1)=false) m6._auto_1):PD X B (.Call (.Attribute o "index" apos) [e] [] cpos) (mMt "list" a4z mo mr):=
 b9j PySem.F.plainAttrs_list PySem.F.slot_list_index PySem.F.type_list_index (fun ξ=>b0m (X:=rz X ξ) (K:=B.K) hK hu) a8d ho ha hK hbase hfew hline hs hplain
end
section
variable {tg:FT}{mt:M Bool}{me:M W}{ρ ρ1 ρ2 ρ3 ρ4:k9}{d y:D}{w:W}
theorem a6V (h1:tg d ρ=some ρ1)(h2:mt ρ1=some (.ok true ρ2))(h3:me ρ2=some (.ok w ρ3))(h4:D3 w ρ3=some (.ok y ρ4)):compTurn tg mt me ρ d=some (some y):=by
 unfold compTurn
 rw [h1]
 simp only [h2]
 rw [M.j8 h3,h4]
theorem b3J (h1:tg d ρ=some ρ1)(h2:mt ρ1=some (.ok false ρ2)):compTurn tg mt me ρ d=some none:=by
 unfold compTurn
 rw [h1]
 simp only [h2]
end
theorem b6A {α:Type}(xs:List α)(k:Nat):(xs.drop (HT.sIx xs.length 0 none)).take (HT.sIx xs.length xs.length (some (k:Int)) - HT.sIx xs.length 0 none)=xs.take k:=by
 rw [HT.b3H,HT.b1D,List.drop_zero,Nat.sub_zero]
 by_cases h:k≤xs.length
 ·rw [Nat.min_eq_left h]
 ·rw [Nat.min_eq_right (by omega),List.take_of_length_le (Nat.le_refl _),List.take_of_length_le (by omega)]
theorem b1F {X:Cx}{B:Bs}{x:Str}{cs:List Nat}{j pos}(h:x.cps.toList=cs):PD X B (.Constant (.str x) j pos) (mC (.str cs)):=by
 subst h
 exact b72
end L3
set_option maxRecDepth 100000
namespace PySem
open PyProof.Rows
theorem F.a55:typeLookup (.type "list") "keys"=pure none:=by rw [typeLookup_type,builtinLookup_eq_fast]; kernel_rfl
theorem F.a3y:typeLookup (.type "list") "__getattr__"=pure none:=by rw [typeLookup_type,builtinLookup_eq_fast]; kernel_rfl
theorem F.L7:isSubtype (.type "AttributeError") (.type "AttributeError")=pure true:=by rw [isSubtype_type]; kernel_rfl
section
variable {prog:Program}{w:World}{A:Around}{E:Value→Shared→Prop}{h:Heap}{g:Array GenState}{d:Drawn}{t:Nat}{os:OsState}{a:Addr}{items:Array Value}{n:Nat}{sl:Array (Option Value)}
theorem a4Q {α:Type}{msg:Str}{Q:α→Shared→Prop}(hh:A.handled=none)(hm:msg.length≤sizeLine)
   (hE:∀ x h' t',(∀ b o,h.get? b=some o→h'.get? b=some o)→(∃ o,h'.get? x=some o∧o.cls=.type "AttributeError")→E (.ref x) ⟨h',g,d,t',os⟩):
    wpAny (model prog w) A (raiseAttrError (.ref a) (Str.ofString "keys") msg:Sem α) Q E ⟨h,g,d,t,os⟩:=by
  have f1:=F.L7
  unfold raiseAttrError mkStr
  repeat (any_goals (first | assumption | wp_step))
  refine wpAny_raiseNew_none hh (hE _ _ _ (fun b o hb=>?_) ⟨_,Heap.get?_update_self _ (Heap.get?_push_size _ rfl) rfl,rfl⟩)
  refine Eq.trans (Heap.get?_update_other _ _ ?_) (Heap.get?_push_of_some _ (Heap.get?_push_of_some _ hb))
  have:=Heap.lt_size hb
  intro z
  rw [← z] at this
  have e:=PyProof.Rows.size_push' h { cls:=Value.type "tuple",data:=Data.seq #[Value.str msg t] }
  rw [e] at this
  exact Nat.lt_irrefl _ (Nat.lt_trans (Nat.lt_succ_self _) this)
theorem a3G {tk:Tok}{Q:Fin→Shared→Prop}(hh:A.handled=none)(hx:h.get? a=some { cls:=.type "list",dict:=none,data:=.seq items n,slots:=sl })
   (hE:∀ x h' t',(∀ b o,h.get? b=some o→h'.get? b=some o)→(∃ o,h'.get? x=some o∧o.cls=.type "AttributeError")→E (.ref x) ⟨h',g,d,t',os⟩):
    wpAny (model prog w) A (Builtin.«object.__getattribute__» ⟨[.ref a,.str "keys" tk],[]⟩) Q E ⟨h,g,d,t,os⟩:=by
  have hT:(⟨h,g,d,t,os⟩:Shared).TypeIs (.ref a) "list":=⟨_,hx,rfl⟩
  have f4:=F.a55
  repeat (any_goals (first | assumption | wp_step))
  refine a4Q hh ?_ hE
  decide +kernel
theorem a30 {tk:Tok}{R:Result→Shared→Prop}(hh:A.handled=none)(hx:h.get? a=some { cls:=.type "list",dict:=none,data:=.seq items n,slots:=sl })
   (hE:∀ x h' t',(∀ b o,h.get? b=some o→h'.get? b=some o)→(∃ o,h'.get? x=some o∧o.cls=.type "AttributeError")→R (.error (.ref x)) ⟨h',g,d,t',os⟩):
    codeAny (model prog w) A (.call (.builtin "list.__getattribute__") ⟨[.ref a,.str "keys" tk],[]⟩) R ⟨h,g,d,t,os⟩:=
  codeAny_call_builtin F.slot_list_getattribute.plain F.entry_list_ga (F.slot_list_getattribute.check _ _ _ _ _ _ _ _ (show (⟨h,g,d,t,os⟩:Shared).TypeIs (.ref a) "list" from ⟨_,hx,rfl⟩) (F.args_list_getattribute_2 _ _) (a3G hh hx hE))
theorem a6j {tk:Tok}{Q:Value→Shared→Prop}(hh:A.handled=none)(hx:h.get? a=some { cls:=.type "list",dict:=none,data:=.seq items n,slots:=sl })
   (hE:∀ x h' t',(∀ b o,h.get? b=some o→h'.get? b=some o)→(∃ o,h'.get? x=some o∧o.cls=.type "AttributeError")→E (.ref x) ⟨h',g,d,t',os⟩):wpAny (model prog w) A (getAttrBy (.ref a) (.str "keys" tk) false) Q E ⟨h,g,d,t,os⟩:=by
  have hT:(⟨h,g,d,t,os⟩:Shared).TypeIs (.ref a) "list":=⟨_,hx,rfl⟩
  have f2:=F.slot_list_getattribute.lookup
  have f3:=F.slot_list_getattribute.bind (.ref a)
  have f5:=F.a3y
  have f6:=F.L7
  repeat (any_goals (first | assumption | wp_step))
  refine a30 hh hx fun x h' t' kp ex=>?_
  have hT':(⟨h',g,d,t',os⟩:Shared).TypeIs (.ref x) "AttributeError":=ex
  repeat (any_goals (first | assumption | wp_step))
  exact hE x h' t' kp ex
theorem a4K {Q:Option Value→Shared→Prop}(hh:A.handled=none)(hx:h.get? a=some { cls:=.type "list",dict:=none,data:=.seq items n,slots:=sl })
   (hQ:∀ h' t',(∀ b o,h.get? b=some o→h'.get? b=some o)→Q none ⟨h',g,d,t',os⟩):wpAny (model prog w) A (getAttr? (.ref a) "keys") Q E ⟨h,g,d,t,os⟩:=by
  unfold getAttr? getAttrBy?
  have f6:=F.L7
  repeat (any_goals (first | assumption | with_reducible apply a6j hh hx | wp_step))
  intro x h' t' kp ex
  have hT':(⟨h',g,d,t',os⟩:Shared).TypeIs (.ref x) "AttributeError":=ex
  repeat (any_goals (first | assumption | wp_step))
  exact hQ h' t' kp
end
theorem F.B3:entryFor table "dict.update.loop"=some Builtin.«dict.update.loop»:=entryFor_of_tree (by kernel_rfl)
theorem F.n9:plainId "dict.update.loop"=true:=by decide +kernel
noncomputable def b7C (d it:Addr)(h h':Heap):Prop:=∀ b o,b≠d→b≠it→h.get? b=some o→h'.get? b=some o
section
variable {prog:Program}{w:World}{A:Around}{E:Value→Shared→Prop}{K:Type}[DecidableEq K]{knd:KeyKind prog w K}
theorem a7w (d it l : Addr) (items : Array Value) (ps : List (K × Value)) (hh : A.in1.handled = none) (hdl : l ≠ d) (hil : l ≠ it) (hdi : d ≠ it) (result : Value) (hlen : ps.length = items.size) (R : Result → Shared → Prop) :
  ∀ (m i : Nat) (kvs : List (K × Value)) (s : Shared), m = ps.length - i → i ≤ ps.length →
   s.heap.DictOf knd d kvs → s.heap.IsListIter it l i → s.heap.IsList l items →
   (∀ (j : Nat) (p : K × Value), ps[j]? = some p → ∃ t key, items[j]? = some (.ref t) ∧ t ≠ d ∧ t ≠ it ∧ s.heap.IsTuple t #[key, p.2] ∧ knd.is p.1 key = true) →
   kvs.length + m ≤ sizeLine →
   (∀ h' tk, h'.DictOf knd d (merged kvs (ps.drop i)) → b7C d it s.heap h' → R (.ok (.ret result)) { s with heap := h', toks := tk }) →
   codeAny (model prog w) A (.builtin "dict.update.loop" ⟨[.ref d, .ref it, rawInt i, result], []⟩) R s := by
  intro m
  induction m with
  | zero =>
    intro i kvs s hm hi hd hit hl hps hsz hR
    have hin : i = ps.length := by omega
    refine codeAny_builtin F.B3 ?_
    rw [Around.under_plainId F.n9 _]
    show wpAny _ A.in1 (pyNext (.ref it) >>= _) _ _ s
    refine wpAny_bind (wpAny_pyNext_list_end hh hit hl (by rw [Array.getElem?_eq_none]; omega) fun h' eb => ?_)
    show wpAny _ A.in1 (Builtin.Dict.addKeywords d [] >>= fun _ => ret result) _ _ _
    refine wpAny_bind (wpAny_pure (wpAny_pure ?_))
    refine hR h' s.toks ?_ fun b o hb hb2 e => eb b o hb2 e
    rw [hin, List.drop_length]
    refine D0 (hd) fun o es ep ho rest => ?_
    exact ⟨o, es, ep, eb d o hdi ho, rest⟩
  | succ m ih =>
    intro i kvs s hm hi hd hit hl hps hsz hR
    have hlt : i < ps.length := by omega
    refine a9w (hps i ps[i] (List.getElem?_eq_getElem hlt)) fun t key ht htd hti htup hkey => ?_
    refine codeAny_builtin F.B3 ?_
    rw [Around.under_plainId F.n9 _]
    show wpAny _ A.in1 (pyNext (.ref it) >>= _) _ _ s
    refine wpAny_bind (wpAny_pyNext_list_item hit hl ht fun h' hit' sb => ?_)
    have kp : ∀ b o, b ≠ it → s.heap.get? b = some o → h'.get? b = some o := fun b o hb e => (sb.2 b hb).trans e
    have hd' : h'.DictOf knd d kvs := by refine D0 (hd) fun o es ep ho rest => ?_; exact ⟨o, es, ep, kp d o hdi ho, rest⟩
    have htup' : h'.IsTuple t #[key, ps[i].2] := by refine c6 (htup) fun o ho rest => ?_; exact ⟨o, kp t o hti ho, rest⟩
    have hT : ({ s with heap := h' } : Shared).TypeIs (.ref t) "tuple" := by refine j7 (htup') fun o ho hc _ => ?_; exact ⟨o, ho, hc⟩
    refine j7 (id htup') fun ot hot hct Z9 => g8 Z9 fun nt hdt => ?_
    show wpAny _ A.in1 (holding [Value.ref t] _ >>= _) _ _ { s with heap := h' }
    refine wpAny_bind (wpAny_holding ?_)
    refine wpAny_bind (wpAny_tryCatch ?_)
    unfold Builtin.Dict.pairItems
    refine wpAny_bind (wpAny_typeOf hT ?_)
    rw [if_pos (by decide)]
    refine wpAny_bind ?_
    unfold seqItems?
    refine wpAny_bind (wpAny_load hot ?_)
    rw [hdt]
    refine wpAny_pure (wpAny_pure ?_)
    show wpAny _ A.in1 (holding [key, ps[i].2] (dictSet d key ps[i].2)) _ _ { s with heap := h' }
    refine wpAny_holding (wpAny_dictSet_pairs (s := { s with heap := h' }) (k := ps[i].1) hkey hd' (fun h2 hd2 sb2 => ?_) (by omega))
    have kp2 : ∀ b o, b ≠ d → b ≠ it → s.heap.get? b = some o → h2.get? b = some o := fun b o hb hb2 e => (sb2.2 b hb).trans (kp b o hb2 e)
    have hc : ((i : Int) + 1) = ((i + 1 : Nat) : Int) := by push_cast; rfl
    refine wpAny_pure ⟨plainId_quiet F.n9 _, ?_⟩
    rw [hc]
    refine ih (i + 1) (stored kvs ps[i].1 ps[i].2) { s with heap := h2, toks := s.toks + 1 } (by omega) (by omega) hd2 ?_ ?_ ?_ ?_ fun h3 tk hd3 kp3 => ?_
    · refine c6 (hit') fun o ho rest => ?_
      exact ⟨o, (sb2.2 it (Ne.symm hdi)).trans ho, rest⟩
    · refine c6 (hl) fun o ho rest => ?_
      exact ⟨o, kp2 l o hdl hil ho, rest⟩
    · intro j p hj
      refine a9w (hps j p hj) fun t key a1 a2 a3 Z1 a5 => ?_; refine c6 (Z1) fun o ho rest => ?_
      exact ⟨t, key, a1, a2, a3, ⟨o, kp2 t o a2 a3 ho, rest⟩, a5⟩
    · have := stored_length_le kvs ps[i].1 ps[i].2
      omega
    · refine hR h3 tk ?_ fun b o hb hb2 e => kp3 b o hb hb2 (kp2 b o hb hb2 e)
      rw [List.drop_eq_getElem_cons hlt]
      exact hd3
theorem a3u {s:Shared}{l:Addr}{items:Array Value}{n:Nat}{sl:Array (Option Value)}(ps:List (K×Value)){Q:Value→Shared→Prop}(hh:A.handled=none)(hl:s.heap.get? l=some { cls:=.type "list",dict:=none,data:=.seq items n,slots:=sl }) (hlen:ps.length=items.size) (hsz:ps.length≤sizeLine)
  (hps:∀ (j:Nat) (p:K×Value),ps[j]?=some p→∃ t key,items[j]?=some (.ref t)∧s.heap.IsTuple t #[key,p.2]∧knd.is p.1 key=true)
  (h:∀ h' tk,h'.DictOf knd s.heap.objs.size (merged [] ps)→(∀ b o,s.heap.get? b=some o→h'.get? b=some o)→Q (.ref s.heap.objs.size) { s with heap:=h',toks:=tk }):
  wpAny (model prog w) A (call (.type "dict") [.ref l]) Q E s:=by
 refine callType_codes (Q₁:=fun obj s₁=>obj=.ref s.heap.objs.size∧s₁={ s with heap:=s.heap.push { cls:=.type "dict",data:=.dict #[] } }) F.kt_called_dict (F.kt_typeCall_dict_1 _) F.entry_dict_init (kt_code_dict_new _ ⟨rfl,rfl⟩) ?_
 rintro obj s₁ ⟨rfl,rfl⟩
 have hnew:(s.heap.push { cls:=.type "dict",data:=.dict #[] }).DictOf knd s.heap.objs.size []:=Heap.DictOf.new s.heap
 refine ⟨hnew.typeIs,F.args_dict_init_2 _ _,?_⟩
 unfold Builtin.«dict.__init__»
 refine wpAny_bind ?_
 unfold Builtin.Dict.selfAndRest
 refine wpAny_bind (wpAny_notOrdered_dict hnew.typeIs ?_)
 show wpAny _ _ (pure (s.heap.objs.size,[Value.ref l])) _ _ _
 refine wpAny_pure ?_
 show wpAny _ _ (Builtin.Dict.updateFrom "dict.__init__" s.heap.objs.size (.ref l) [] .none) _ _ _
 unfold Builtin.Dict.updateFrom
 have hl1:(s.heap.push { cls:=.type "dict",data:=.dict #[] }).get? l=some { cls:=.type "list",dict:=none,data:=.seq items n,slots:=sl }:=Heap.get?_push_of_some _ hl
 have hlt:=Heap.lt_size hl
 refine wpAny_bind (wpAny_typeOf (T:="list") ⟨_,hl1,rfl⟩ ?_)
 rw [if_pos (by decide)]
 refine wpAny_bind (a4K (h:=s.heap.push { cls:=.type "dict",data:=.dict #[] }) (by exact hh) hl1 fun h1 t1 kp1=>?_)
 rw [if_pos (show (none:Option Value).isNone=true from rfl)]
 refine wpAny_bind (wpAny_rule ?_)
 have hl2:=kp1 _ _ hl1
 refine wpAny_bind (wpAny_pyIter_list (items:=items) ⟨_,hl2,rfl,n,rfl⟩ ?_)
 refine wpAny_pure ⟨plainId_quiet F.n9 _,?_⟩
 have hd1:h1.get? s.heap.objs.size=some { cls:=.type "dict",data:=.dict #[] }:=kp1 _ _ (Heap.get?_push_size _ rfl)
 have hlt1:=Heap.lt_size hd1
 have kp2:∀ b o,s.heap.get? b=some o→(h1.push { cls:=.type "list_iterator",data:=.fields #[.ref l,.int 0 0] }).get? b=some o:=fun b o e=>Heap.get?_push_of_some _ (kp1 _ _ (Heap.get?_push_of_some _ e))
 refine a7w (knd:=knd) s.heap.objs.size h1.objs.size l items ps (by exact hh) (Nat.ne_of_lt hlt) (fun z=>?_) (Nat.ne_of_lt hlt1) .none hlen _ ps.length 0 [] _ rfl (Nat.zero_le _) ?_ ?_ ?_ ?_ (by simpa using hsz) fun h' tk hd' kp'=>⟨rfl,?_⟩
 ·have:=Heap.lt_size (kp1 _ _ hl1)
  rw [← z] at this
  exact Nat.lt_irrefl _ this
 ·refine D0 (hnew) fun o es ep ho rest=>?_
  exact ⟨o,es,ep,Heap.get?_push_of_some _ (kp1 _ _ ho),rest⟩
 ·exact ⟨_,Heap.get?_push_size _ rfl,rfl,rfl⟩
 ·exact ⟨_,Heap.get?_push_of_some _ hl2,rfl,n,rfl⟩
 ·intro j p hj
  refine i9 (hps j p hj) fun t key a1 Z1 a5=>?_; refine c6 (Z1) fun o ho rest=>?_
  have hlo:=Heap.lt_size ho
  refine ⟨t,key,a1,Nat.ne_of_lt hlo,Nat.ne_of_lt (Heap.lt_size (kp1 _ _ (Heap.get?_push_of_some _ ho))),⟨o,kp2 _ _ ho,rest⟩,a5⟩
 ·refine h h' tk (by simpa using hd') fun b o e=>?_
  exact kp' b o (Nat.ne_of_lt (Heap.lt_size e)) (Nat.ne_of_lt (Heap.lt_size (kp1 _ _ (Heap.get?_push_of_some _ e)))) (kp2 b o e)
end
end PySem
set_option Elab.async false
set_option linter.all false
set_option maxRecDepth 100000
set_option maxHeartbeats 4000000
namespace L3
open PySem PySem.Spec PyProof.Rows L2
noncomputable def a2A (kvs prs:List (Key×V)):List (Key×V):=prs.foldl (fun acc p=>putK acc p.1 p.2) kvs
noncomputable def a1o (es ps:List (Key×D)):List (Key×D):=ps.foldl (fun acc p=>putD acc p.1 p.2) es
theorem a2G:∀ {prs:List (Key×V)} {ps:List (Key×Value)} {kvs:List (Key×V)} {vs:List (Key×Value)},KV prs ps→KV kvs vs→KV (a2A kvs prs) (merged vs ps):=by
 intro prs ps kvs vs h
 unfold KV at h
 induction h generalizing kvs vs with
 | nil=>intro r; exact r
 | @cons p q ps qs hpq _ ih=>
  intro r
  have e:KV (putK kvs p.1 p.2) (stored vs q.1 q.2):=by rw [← hpq.1]; exact r.put p.1 hpq.2
  exact ih e
theorem a6l {K:PySem.W.Frag}{G:Hp}{prs:List (Key×V)}{ps:List (Key×D)}(h:n5 K G prs ps):∀ {kvs:List (Key×V)} {es:List (Key×D)},n5 K G kvs es→n5 K G (a2A kvs prs) (a1o es ps):=by
 refine n5.ind (P:=fun prs ps=>∀ {kvs:List (Key×V)} {es:List (Key×D)},n5 K G kvs es→n5 K G (a2A kvs prs) (a1o es ps)) ?_ ?_ h
 ·intro kvs es r; exact r
 ·intro p e prs ps hk hr _ ih kvs es r
  have q:n5 K G (putK kvs p.1 p.2) (putD es e.1 e.2):=by rw [hk]; exact r.put e.1 hr
  exact ih q
section
variable {X:Cx}{pins:List (Addr×Obj)}{σ:St}{H:Hp}{s:Shared}
theorem a7t (I:Inv X pins σ H s):∀ {prs:List (Key×V)} {ys:List V} {its:List Value},ys.length=prs.length→(∀ (j:Nat) y pr,ys[j]?=some y→prs[j]?=some pr→∃ t,y=.ref t∧Y8 X.K H t [kV pr.1,pr.2])→Vals ys its→
  ∃ ps:List (Key×Value),KV prs ps∧∀ (j:Nat) p,ps[j]?=some p→∃ t key,its[j]?=some (.ref t)∧s.heap.IsTuple t #[key,p.2]∧(x8 X.prog X.w).is p.1 key=true
 | [],[],its,_,_,v=>by cases v; exact ⟨[],.nil,fun j p h=>by simp at h⟩
 | [],_::_,_,h,_,_=>by simp at h
 | _::_,[],_,h,_,_=>by simp at h
 | pr::prs,y::ys,its,hl,hq,v=>by
  cases v with
  | @cons _ u _ us ru v=>
   refine c6 (a7t I (prs:=prs) (ys:=ys) (by simpa using hl) (fun j y pr a b=>hq (j + 1) y pr (by simpa using a) (by simpa using b)) v) fun ps hkv hps=>?_
   obtain ⟨t,rfl,ht⟩:=hq 0 y pr rfl rfl
   cases ru
   refine j7 (I.tuple ht) fun its2 r2 p2 _=>?_
   cases r2 with
   | @cons _ key _ us2 rk r2=>
    cases r2 with
    | @cons _ u2 _ us3 ru2 r2=>
     cases r2
     refine ⟨(pr.1,u2)::ps,.cons ⟨rfl,ru2⟩ hkv,fun j p h=>?_⟩
     cases j with
     | zero=>
      have e:(pr.1,u2)=p:=by simpa using h
      subst e
      exact ⟨t,key,rfl,p2,a3c rk⟩
     | succ j=>
      refine i9 (hps j p (by simpa using h)) fun t' key' a1 a2 a3=>?_
      exact ⟨t',key',by simpa using a1,a2,a3⟩
end
theorem a2E {X:Cx}{K:PySem.W.Frag}(hK:X.K=K)(hc:X.calm=true):F8 X (.type "dict") (fun xs H Q=>∃ p ys prs,xs=[.ref p]∧L5 K H p ys∧ys.length=prs.length∧(∀ (j:Nat) y pr,ys[j]?=some y→prs[j]?=some pr→∃ t,y=.ref t∧Y8 K H t [kV pr.1,pr.2])∧∀ l,H l=none→Q (.ref l) (upd H l (.dK (a2A [] prs)))):=by
 subst hK
 intro pins s σ H xs us Q I r h
 refine Y9 (h) fun p ys prs Z1 hq hl hp q=>?_; subst Z1
 refine c6 (vals1 r) fun u Z1 ru=>?_; subst Z1
 cases ru
 refine j7 (I.list hq) fun its rv pl hz=>?_
 refine c6 (a7t I hl hp rv) fun ps hkv hps=>?_
 obtain ⟨⟨cls,dd,data,sl⟩,n,ho,hcl,hdd,hd⟩:=pl
 simp only at hcl hd hdd
 subst hcl hd hdd
 have l1:=hkv.length
 have l2:=rv.length
 have hn:(a2A [] prs).length≤sizeLine:=by
  have e:=(a2G hkv (kvs:=[]) (vs:=[]) .nil).length
  have e2:=merged_length_le ([]:List (Key×Value)) ps
  simp at e2
  omega
 refine a3u (knd:=x8 X.prog X.w) ps (I.ok.hd hc) ho (by rw [List.size_toArray]; omega) (by omega) (fun j p hj=>?_) fun h' tk hd' kp=>?_
 ·refine i9 (hps j p hj) fun t key a1 a2 a3=>?_
  exact ⟨t,key,by simpa using a1,a2,a3⟩
 ·exact ⟨.ref s.heap.objs.size,_,I.laid (a:=s.heap.objs.size) (o:=.dK (a2A [] prs)) (t':=tk) kp (Nat.le_refl _) (a6O hn (beq_eq_false_iff_ne.mpr (Ne.symm (Nat.ne_of_lt I.big))) (a2G hkv .nil) hd'),rfl,q _ I.fresh⟩
noncomputable def pairD:D→Option (Key×D)
 | .tup [k,v]=>(keyOf k).map fun k=>(k,v)
 | _=>none
noncomputable def S0:List D→Option (List (Key×D))
 | []=>some []
 | d::ds=>(pairD d).bind fun p=>(S0 ds).map (p::·)
noncomputable def a0y:List D→Option W
 | [.lst ds]=>(S0 ds).map fun ps=>.own (.dct (a1o [] ps))
 | _=>none
theorem a9d {K:PySem.W.Frag}{G H:Hp}(g:i6 G H):∀ {ds:List D} {ps:List (Key×D)} {ys:List V},S0 ds=some ps→t6 K G ys ds→
  ∃ prs,n5 K G prs ps∧ys.length=prs.length∧∀ (j:Nat) y pr,ys[j]?=some y→prs[j]?=some pr→∃ t,y=.ref t∧Y8 K H t [kV pr.1,pr.2]
 | [],ps,[],h,_=>by cases h; exact ⟨[],.nil,rfl,fun j y pr h=>by simp at h⟩
 | [],_,_::_,_,r=>by have:=r.len; simp at this
 | _::_,_,[],_,r=>by have:=r.len; simp at this
 | d::ds,ps,y::ys,h,r=>by
  have h':(pairD d).bind (fun p=>(S0 ds).map (p::·))=some ps:=h
  cases hd:pairD d with
  | none=>rw [hd] at h'; cases h'
  | some p0=>
   rw [hd] at h'
   refine c6 (Option.map_eq_some_iff.mp (show (S0 ds).map (p0::·)=some ps from h')) fun ps2 h2 Z1=>?_; subst Z1
   refine j7 (a9d g h2 r.tail) fun prs a1 a2 a3=>?_
   unfold pairD at hd
   split at hd
   ·rename_i k v
    refine c6 (Option.map_eq_some_iff.mp hd) fun k' hk Z1=>?_; subst Z1
    have hy:=r.head
    cases hy with
    | @tup a xs _ hs hl hr=>
     match xs,hl with
     | [x1,x2],_=>
      have e1:=hr 0 x1 k rfl rfl
      have e2:=hr 1 x2 v rfl rfl
      have ek:x1=kV k':=a2g (G:=G) (H:=H) (.inl e1) hk
      subst ek
      refine ⟨(k',x2)::prs,.cons rfl e2 a1,by simp [a2],fun j y pr hj hp=>?_⟩
      cases j with
      | zero=>
       have z1:V.ref a=y:=by simpa using hj
       have z2:(k',x2)=pr:=by simpa using hp
       subst z1 z2
       exact ⟨a,rfl,g.tup hs⟩
      | succ j=>exact a3 j y pr (by simpa using hj) (by simpa using hp)
   ·cases hd
section
variable {X:Cx}{B:Bs}{e:Expr}{mr:M (List W)}{pos p:Pos}
theorem a82:a13 B (fun xs H Q=>∃ p ys prs,xs=[.ref p]∧L5 B.K H p ys∧ys.length=prs.length∧(∀ (j:Nat) y pr,ys[j]?=some y→prs[j]?=some pr→∃ t,y=.ref t∧Y8 B.K H t [kV pr.1,pr.2])∧∀ l,H l=none→Q (.ref l) (upd H l (.dK (a2A [] prs)))) a0y:=by
 intro G H σ ρ xs ds w Q R h e p
 match ds,e with
 | [.lst ds],e=>
  obtain ⟨ps,hp,rfl⟩:=Option.map_eq_some_iff.mp (show (S0 ds).map (fun ps=>W.own (.dct (a1o [] ps)))=some w from e)
  refine c6 (F0 h) fun x Z1 hx=>?_; subst Z1
  refine i9 (hx.lst R.gH) fun q ys Z1 h1 r1=>?_; subst Z1
  refine j7 (a9d R.gH hp r1) fun prs a1 a2 a3=>?_
  refine ⟨q,ys,prs,rfl,h1,a2,a3,fun l hl=>?_⟩
  refine f9 (R.a8X hl (a6l a1 n5.nil)) fun R' w'=>?_
  exact p _ G _ (i6.refl _) R' w'
theorem a6g (hc:X.calm=true)(hm:X.mg "dict"=none) (ha:PDA X B [e] mr) (hg:autoParam (Gl X "dict") m6._auto_1) (hK:autoParam (X.K=B.K) m6._auto_1) (he:autoParam (starEach [e] X.env=(false,eval e X.env)::starEach [] X.env) m6._auto_1) (hpl:autoParam ((backTo pos (starEach [] X.env)).any (·.1)=false) m6._auto_1):PD X B (.Call (.Name "dict" p) [e] [] pos) (E3 a0y mr):=
 a4U (fun ξ=>a2E (X:=rz X ξ) (K:=B.K) hK hc) a82 hg hm PyProof.Rows.boot_dict ha (by decide) (by decide) he hpl
end
end L3
set_option Elab.async false
set_option linter.all false
set_option maxRecDepth 100000
set_option maxHeartbeats 4000000
namespace L3
open PySem PySem.Spec PyProof.Rows L2
section
variable {P:Program}{w:World}{K:PySem.W.Frag}{G G' H H':Hp}{h h':Heap}{a b p:Addr}{o:Obj}{kvs:List (Key×V)}
theorem b6e (x:HOk P w H h)(e:H a=some (.dK kvs))(ho:h.get? a=some o):HOk P w (upd H a (.frz o (.dK kvs))) h:=by
 have k1:∀ c b,H c=some (.own b)→upd H a (.frz o (.dK kvs)) c=some (.own b):=fun c b r=>by
  rw [j3 (by rintro rfl; rw [e] at r; cases r)]; exact r
 have k2:∀ c xs,H c=some (.tup xs)→upd H a (.frz o (.dK kvs)) c=some (.tup xs):=fun c b r=>by
  rw [j3 (by rintro rfl; rw [e] at r; cases r)]; exact r
 intro b u q
 by_cases z:b=a
 ·subst z
  rw [l9] at q
  cases q
  exact ⟨ho,(x _ _ e).stay (fun c v _ r=>r) (fun c r=>k1 c _ r) k2⟩
 ·rw [j3 z] at q
  exact (x b u q).stay (fun c v _ r=>r) (fun c r=>k1 c _ r) k2
theorem b6G (x:HOk P w H h)(e:H a=some (.frz o (.dK kvs))):HOk P w (upd H a (.dK kvs)) h:=by
 have k1:∀ c b,H c=some (.own b)→upd H a (.dK kvs) c=some (.own b):=fun c b r=>by
  rw [j3 (by rintro rfl; rw [e] at r; cases r)]; exact r
 have k2:∀ c xs,H c=some (.tup xs)→upd H a (.dK kvs) c=some (.tup xs):=fun c b r=>by
  rw [j3 (by rintro rfl; rw [e] at r; cases r)]; exact r
 intro b u q
 by_cases z:b=a
 ·subst z
  rw [l9] at q
  cases q
  refine f9 (x _ _ e) fun _ q=>?_
  exact q.stay (fun c v _ r=>r) (fun c r=>k1 c _ r) k2
 ·rw [j3 z] at q
  exact (x b u q).stay (fun c v _ r=>r) (fun c r=>k1 c _ r) k2
theorem b8p {fs:List Addr}(u:Un fs [] (upd H a (.frz o (.dK kvs))) H' h h')(e:H a=some (.dK kvs)):Un fs [] H (upd H' a (.dK kvs)) h h':=by
 have ne:∀ {b},H b=none→b≠a:=fun q z=>by rw [z,e] at q; cases q
 refine ⟨fun b ob q n h1 h2=>u.keep b ob q (by rw [j3 (ne n)]; exact n) h1 h2,fun b ob q n h1 h2=>u.slot b ob q (by rw [j3 (ne n)]; exact n) h1 h2,fun b ob q n h1=>?_,u.there,fun b xs q=>?_,fun b ob v q=>?_,fun b ps q=>?_⟩
 ·rw [j3 (ne n)]
  exact u.free b ob q (by rw [j3 (ne n)]; exact n) h1
 ·have z:b≠a:=by rintro rfl; rw [e] at q; cases q
  rw [j3 z]
  exact u.tups b xs (by rw [j3 z]; exact q)
 ·have z:b≠a:=by rintro rfl; rw [e] at q; cases q
  rw [j3 z]
  exact u.frzs b ob v (by rw [j3 z]; exact q)
 ·have z:b≠a:=by rintro rfl; rw [e] at q; cases q
  rw [j3 z]
  exact u.tbls b ps (by rw [j3 z]; exact q)
structure Sw (a:Addr) (kvs:List (Key×V)) (G G':Hp):Prop where
 out:∀ b,b≠a→G' b=G b
 was:Rd G a (.dK kvs)
 now:Rd G' a (.dK kvs)
theorem Sw.rd {u:HO}(s:Sw a kvs G G')(h:Rd G b u)(z:b≠a):Rd G' b u:=by
 refine Or.elim (h) (fun h=>?_) fun Z1=>g8 (Z1) fun o h=>?_
 ·exact .inl (by rw [s.out b z]; exact h)
 ·exact .inr ⟨o,by rw [s.out b z]; exact h⟩
theorem b53 {u v:HO}(h1:Rd G a u)(h2:Rd G a v)(n1:∀ o x,u≠.frz o x)(n2:∀ o x,v≠.frz o x):u=v:=by
 rcases h1 with h1 | ⟨o1,h1⟩ <;> rcases h2 with h2 | ⟨o2,h2⟩ <;> rw [h1] at h2
 ·exact Option.some.inj h2
 ·exact absurd (Option.some.inj h2) (n1 _ _)
 ·exact absurd (Option.some.inj h2).symm (n2 _ _)
 ·cases h2; rfl
theorem Sw.ne {u:HO}(s:Sw a kvs G G')(h:Rd G b u)(n:∀ o x,u≠.frz o x)(hu:u≠.dK kvs):b≠a:=by
 rintro rfl
 exact hu (b53 h s.was n (by intro o x z; cases z))
theorem Sw.tup {xs:List V}(s:Sw a kvs G G')(h:Y8 K G b xs):Y8 K G' b xs:=by
 refine Or.elim (h) (fun h=>?_) fun h=>?_
 ·exact .inl (s.rd h (s.ne h (by intro o x z; cases z) (by intro z; cases z)))
 ·exact .inr h
theorem Sw.lst {xs:List V}(s:Sw a kvs G G')(h:L5 K G b xs):L5 K G' b xs:=by
 refine Or.elim (h) (fun h=>?_) fun h=>?_
 ·exact .inl (s.rd h (s.ne h (by intro o x z; cases z) (by intro z; cases z)))
 ·exact .inr h
theorem Sw.dct {ks:List (Key×V)}(s:Sw a kvs G G')(h:Rd G b (.dK ks)):Rd G' b (.dK ks):=by
 by_cases z:b=a
 ·subst z
  rw [b2O h s.was]
  exact s.now
 ·exact s.rd h z
theorem Sw.rep (s:Sw a kvs G G'){v:V}{d:D}(h:Rep K G v d):Rep K G' v d:=by
 induction h with
 | w6=>exact .w6
 | bl b=>exact .bl b
 | int i=>exact .int i
 | str cs=>exact .str cs
 | ty n=>exact .ty n
 | tup h hl _ ih=>exact .tup (s.tup h) hl ih
 | lst h hl _ ih=>exact .lst (s.lst h) hl ih
 | dct h hk _ ih=>exact .dct (s.dct h) hk ih
theorem Sw.b9o (s:Sw a kvs G G'){xs:List V}{ds:List D}(h:t6 K G xs ds):t6 K G' xs ds:=⟨h.len,fun j x d a b=>s.rep (h.get j x d a b)⟩
theorem Sw.b43 (s:Sw a kvs G G'){xs:List (Key×V)}{ds:List (Key×D)}(h:n5 K G xs ds):n5 K G' xs ds:=⟨h.keys,fun j x d a b=>s.rep (h.get j x d a b)⟩
theorem Sw.own (s:Sw a kvs G G'){d:D}(e:H' p=H p)(h:A5 K G H p d):A5 K G' H' p d:=by
 cases d with
 | lst ds=>refine c6 (h) fun xs q r=>?_; exact ⟨xs,by rw [e]; exact q,s.b9o r⟩
 | dct es=>refine c6 (h) fun xs q r=>?_; exact ⟨xs,by rw [e]; exact q,s.b43 r⟩
 | _=>exact (show False from h).elim
theorem Sw.args (s:Sw a kvs G G')(hg:∀ p,G p=none→G' p=none)(hH:∀ p,G p=none→H' p=H p):∀ {ms:List Bool} {vs:List V} {ds:List D} {ps:List Addr},P1 K G H ms vs ds ps→P1 K G' H' ms vs ds ps
 | _,_,_,_,.nil=>.nil
 | _,_,_,_,.sh h r=>.sh (s.rep h) (Sw.args s hg hH r)
 | _,_,_,_,.ln g o n r=>.ln (hg _ g) (s.own (hH _ g) o) n (Sw.args s hg hH r)
end
noncomputable def b2q (i:Nat)(ρ:k9):k9:=match ρ[i]? with
 | some (some (.sh (.dct es)))=>ρ.set i (some (.fz es))
 | _=>ρ
noncomputable def a3j (m:SM)(n:Nat)(ms:List Bool)(i:Nat)(ds:List D):Option FR:=(m (b2q i (A1 n ms ds))).bind (a8u ms)
noncomputable def a8q (K:PySem.W.Frag)(ms:List Bool)(i:Nat)(fm:List D→Option FR):Sp:=fun vs H Q E=>∃ G ds ps r,i6 G H∧P1 K G H ms vs ds ps∧(∃ a o kvs es,vs[i]?=some (.ref a)∧G a=some (.frz o (.dK kvs))∧ds[i]?=some (.dct es)∧n5 K G kvs es)∧fm ds=some r∧match r with
 | .ret w fin=>∀ v G' H',After K G H ps G' H' fin→a6F K H G' H' v w→Q v H'
 | .exc _ _=>False
theorem a2X:∀ {ms:List Bool} {ds:List D} {i:Nat} {m:Bool} {d:D},ms[i]?=some m→ds[i]?=some d→(cells ms ds)[i]?=some (a3P m d)
 | m::ms,d::ds,0,_,_,h1,h2=>by simp at h1 h2; subst h1 h2; rfl
 | m::ms,d::ds,i + 1,_,_,h1,h2=>by
  show (cells ms ds)[i]?=_
  exact a2X (by simpa using h1) (by simpa using h2)
 | [],_,_,_,_,h1,_=>by simp at h1
 | _::_,[],_,_,_,_,h2=>by simp at h2
theorem RS.b9g {B:Bs}{G H:Hp}{σ:St}{ρ:k9}{i:Nat}{es:List (Key×D)}(R:RS B G H σ ρ)(hi:ρ[i]?=some (some (.sh (.dct es))))(hf:∃ a o kvs,σ[i]?=some (some (.ref a))∧G a=some (.frz o (.dK kvs))∧n5 B.K G kvs es):RS B G H σ (ρ.set i (some (.fz es))):=by
 have hil:i < ρ.length:=(List.getElem?_eq_some_iff.mp hi).1
 refine ⟨R.hk,R.keep,R.g0,R.gH,R.gnew,R.dom,by simp [R.len],fun j d' q'=>?_,fun j l d' q'=>?_,fun j k l d' l' e' p' a b=>?_,fun j es' q'=>?_,R.ob.a3E (by intro _ h; cases h <;> rfl) (by intro _ h; cases h)⟩
 ·by_cases z:i=j
  ·subst z; rw [List.getElem?_set_self hil] at q'; cases q'
  ·rw [List.getElem?_set_ne z] at q'; exact R.sh j d' q'
 ·by_cases z:i=j
  ·subst z; rw [List.getElem?_set_self hil] at q'; cases q'
  ·rw [List.getElem?_set_ne z] at q'; exact R.ow j l d' q'
 ·by_cases z:i=j
  ·subst z; rw [List.getElem?_set_self hil] at a; cases a
  ·by_cases z':i=k
   ·subst z'; rw [List.getElem?_set_self hil] at b; cases b
   ·rw [List.getElem?_set_ne z] at a
    rw [List.getElem?_set_ne z'] at b
    exact R.inj j k l d' l' e' p' a b
 ·by_cases z:i=j
  ·subst z
   rw [List.getElem?_set_self hil] at q'
   cases q'
   exact hf
  ·rw [List.getElem?_set_ne z] at q'; exact R.fz j es' q'
section
variable {P:Program}{w:World}{K:PySem.W.Frag}{mg:Str→Option Value}{base:Heap}
theorem b6y {x:Str}{st:Stmt}{f:Addr}{fd:FuncData}{N ps:List Str}{ms:List Bool}{k i:Nat}{m:SM}(F:Fun K x x st f fd)(S:v8 N ps (j9 st))(hm:ms.length=ps.length)(hmi:ms[i]?=some false)
  (hbody:∀ (cdv:Value) (A:Around) (outer:List Env) (s:Shared) (H:Hp) (E:XK) (H0 HK G0:Hp) (L:Nat→Option Addr),K5 k (A.deeper (envOfC x (j9 st) s.heap.objs.size f cdv))→
   a2P (a4C X4 P w K mg base N x (j9 st) f cdv A outer s H E) ⟨K,H0,HK,G0,L,none⟩ (K3 st) m):B7 P w K mg base X4 (k + 1) f fd ps (a8q K ms i (a3j m N.length ms i)):=by
 have hpl:ps.length≤N.length:=by have:=congrArg List.length S.pre; rw [List.length_take] at this; omega
 refine F.ok S (fun vs H Q E h=>?_) (fun cdv A outer s H vs Q E hr h=>?_)
 ·refine a0W (h) fun G ds pp r _ a _=>?_
  rw [a.len.1,hm]
 refine a5Q (h) fun G ds pp r g a Z1 hf q=>?_; refine a3t (Z1) fun a0 o0 kvs es hv0 hG0 hd0 hr0=>?_
 refine ⟨_,((hbody cdv A outer s H E H (minus H pp) G (M6 ms pp) hr).ap fun _ _ _=>False).U6 (fun e s z=>?_),?_⟩
 ·refine a0W (z) fun _ _ _ _ _ _ z=>?_
  exact z
 have R00:=a4o (N:=N) g a (by rw [a.len.1,hm]; exact hpl)
 have hcell:(A1 N.length ms ds)[i]?=some (some (.sh (.dct es))):=by
  have h1:=a2X hmi hd0
  unfold A1
  rw [List.getElem?_append_left (List.getElem?_eq_some_iff.mp h1).1,h1]
  rfl
 have R0:=R00.b9g hcell ⟨a0,o0,kvs,N1 hv0,hG0,hr0⟩
 have hE:b2q i (A1 N.length ms ds)=(A1 N.length ms ds).set i (some (.fz es)):=by unfold b2q; rw [hcell]
 unfold a3j at hf
 rw [hE] at hf
 cases hs:m ((A1 N.length ms ds).set i (some (.fz es))) with
 | none=>rw [hs] at hf; cases hf
 | some sr=>
  rw [hs] at hf
  have hf':a8u ms sr=some r:=hf
  refine ⟨G,_,R0,sr,hs,?_⟩
  have fin:∀ {ρ':k9} {σ':St} {G' H':Hp} {fins:List D},Y4 ms ρ'=some fins→RS ⟨K,H,minus H pp,G,M6 ms pp,none⟩ G' H' σ' ρ'→After K G H pp G' H' fins:=fun {ρ' σ' G' H' fins} e R'=>
   ⟨R'.keep,R'.g0,R'.gH,R'.gnew,R'.dom,a1c (fun _=>rfl) R' a 0 ρ' fins (fun i=>by rw [Nat.zero_add]) (fun i=>by rw [Nat.zero_add]) e⟩
  cases sr with
  | nx ρ'=>
   refine c6 (Option.map_eq_some_iff.mp hf') fun fins e Z1=>?_; subst Z1
   exact fun σ' G' H' s' R'=>q .w6 G' H' (fin e R') .w6
  | rt w' ρ'=>
   cases w' with
   | slot i=>cases hf'
   | val d=>
    refine c6 (Option.map_eq_some_iff.mp hf') fun fins e Z1=>?_; subst Z1
    exact fun v σ' G' H' s' R' rw'=>q v G' H' (fin e R') rw'
   | own d=>
    refine c6 (Option.map_eq_some_iff.mp hf') fun fins e Z1=>?_; subst Z1
    exact fun v σ' G' H' s' R' rw'=>q v G' H' (fin e R') (let ⟨p,a1,a2,a3,a4,_⟩:=rw'; ⟨p,a1,a2,a3,a4⟩)
  | ex x ρ'=>
   refine c6 (Option.map_eq_some_iff.mp hf') fun fins e Z1=>?_; subst Z1
   exact q.elim
  | bk ρ'=>cases hf'
  | ct ρ'=>cases hf'
theorem b54 {G H:Hp}{ms:List Bool}{vs:List V}{ds:List D}{ps:List Addr}{i:Nat}{d:D}(r:P1 K G H ms vs ds ps)(h1:ms[i]?=some false)(h2:ds[i]?=some d):∃ v,vs[i]?=some v∧Rep K G v d:=by
 refine c6 (N9 r (a2X h1 h2)) fun v e h=>?_
 refine Or.elim (h) (fun Z0=>c6 (Z0) fun d' q h=>?_) fun Z1=>l6 (Z1) fun p d' q _=>?_
 ·cases q
  exact ⟨v,e,h⟩
 ·cases q
theorem b9q {f:Addr}{fd:FuncData}{ps:List Str}{ms:List Bool}{k i:Nat}{fm:List D→Option FR}(F:B7 P w K mg base X4 k f fd ps (a8q K ms i fm))(hm:ms.length=ps.length)(hmi:ms[i]?=some false)(hd:∀ ds r,fm ds=some r→∃ es,ds[i]?=some (.dct es)):
  B7 P w K mg base X4 k f fd ps (Q4 K ms fm):=by
 refine ⟨fun vs H Q E h=>?_,fun A outer s H args us vs Q E hr e0 hb hv h=>?_⟩
 ·refine a0W (h) fun G ds pp r _ a _=>?_
  rw [a.len.1,hm]
 refine a3t (h) fun G ds pp r g ar hf q=>?_
 refine g8 (hd ds r hf) fun es hes=>?_
 refine c6 (b54 ar hmi hes) fun v hvi hrep=>?_
 cases hrep with
 | @dct a kvs _ hrd hk hrr=>
  refine Or.elim (hrd) (fun hG=>?_) fun Z1=>g8 (Z1) fun o hG=>?_
  ·have hH:=g _ _ hG
   obtain ⟨z1,z2,vs',z3,o,es',ep,ho,z4⟩:=(show D8 P w H s.heap a (.dK kvs) from e0.hok a _ hH)
   have ne:∀ {b},H b=none→b≠a:=fun q z=>by rw [z,hH] at q; cases q
   have neG:∀ {b},G b=none→b≠a:=fun q z=>by rw [z,hG] at q; cases q
   have e1:a6Z P w K mg base A outer s (upd H a (.frz o (.dK kvs))):=⟨e0.frames,e0.mod,fun b ob q=>⟨(e0.bs b ob q).1,by rw [j3 (ne (e0.bs b ob q).2)]; exact (e0.bs b ob q).2⟩,e0.bsz,e0.a18,fun b q=>by rw [j3 (ne (e0.frf b q))]; exact e0.frf b q,b6e e0.hok hH ho,e0.bare⟩
   have sw:Sw a kvs G (upd G a (.frz o (.dK kvs))):=⟨fun b z=>j3 z,.inl hG,.inr ⟨o,l9⟩⟩
   have gs:i6 (upd G a (.frz o (.dK kvs))) (upd H a (.frz o (.dK kvs))):=fun b u q=>by
    by_cases z:b=a
    ·subst z; rw [l9] at q ⊢; exact q
    ·rw [j3 z] at q ⊢; exact g b u q
   refine codeAny_mono (F.run A outer s (upd H a (.frz o (.dK kvs))) args us vs (fun v H'=>Q v (upd H' a (.dK kvs))) E hr e1 hb hv ⟨upd G a (.frz o (.dK kvs)),ds,pp,r,gs,sw.args (fun p z=>by rw [j3 (neG z)]; exact z) (fun p z=>j3 (neG z)) ar,⟨a,o,kvs,es,hvi,l9,hes,sw.b43 ⟨hk,hrr⟩⟩,hf,?_⟩) fun rr s' hcr=>?_
   ·cases r with
    | exc x fin=>exact q
    | ret w' fin=>
     intro v G' H' A' rr
     have hGa:G' a=some (.frz o (.dK kvs)):=A'.gg a _ l9
     have hHa:H' a=some (.frz o (.dK kvs)):=A'.gH a _ hGa
     have sw':Sw a kvs G' (upd G' a (.dK kvs)):=⟨fun b z=>j3 z,.inr ⟨o,hGa⟩,.inl l9⟩
     have neG':∀ {b},G' b=none→b≠a:=fun q z=>by rw [z,hGa] at q; cases q
     refine q v (upd G' a (.dK kvs)) (upd H' a (.dK kvs)) ⟨fun b u e=>?_,fun b u e=>?_,fun b u e=>?_,fun b u e=>?_,fun b e=>?_,?_⟩ ?_
     ·by_cases z:b=a
      ·subst z
       have:=G9 _ _ _ _ e
       rw [hH] at this
       rw [l9]
       exact this
      ·rw [j3 z]
       refine A'.keep b u ?_
       unfold minus at e ⊢
       split at e
       ·cases e
       ·rename_i hn; rw [if_neg hn,j3 z]; exact e
     ·by_cases z:b=a
      ·subst z; rw [hG] at e; rw [l9]; exact e
      ·rw [j3 z]; exact A'.gg b u (by rw [j3 z]; exact e)
     ·by_cases z:b=a
      ·subst z; rw [l9] at e ⊢; exact e
      ·rw [j3 z] at e ⊢; exact A'.gH b u e
     ·by_cases z:b=a
      ·subst z; rw [l9] at e; rw [hG]; exact .inl e
      ·rw [j3 z] at e
       refine Or.elim (A'.gnew b u e) (fun y=>?_) fun y=>?_
       ·rw [j3 z] at y; exact .inl y
       ·rw [j3 z] at y; exact .inr y
     ·by_cases z:b=a
      ·subst z; rw [l9] at e; cases e
      ·rw [j3 z] at e
       have y:=A'.dom b e
       rw [j3 z] at y
       exact y
     ·exact L2.Paired.imp' (fun p d Z9=>f9 Z9 fun z1 z2=>⟨by rw [j3 (neG' z1)]; exact z1,sw'.own (j3 (neG' z1)) z2⟩) A'.lent
     ·cases w' with
      | val d=>exact sw'.rep rr
      | slot j=>exact rr.elim
      | own d=>
       refine a5J (rr) fun p Z1 y1 y2 y3=>?_; subst Z1
       have zp:p≠a:=neG' y1
       refine ⟨p,rfl,by rw [j3 zp]; exact y1,by rw [j3 zp] at y2; exact y2,sw'.own (j3 zp) y3⟩
   ·cases rr with
    | error e=>exact hcr
    | ok fl=>
     cases fl with
     | ret u=>
      refine a9s (hcr) fun v H' b1 b2 b3 b4 b5 b6=>?_
      exact ⟨v,upd H' a (.dK kvs),b1,b2,b8p b3 hH,b6G b4 (b3.frzs a o _ l9),b5,b6⟩
     | next=>exact hcr
     | brk=>exact hcr
     | cont=>exact hcr
  ·exact F.run A outer s H args us vs Q E hr e0 hb hv ⟨G,ds,pp,r,g,ar,⟨a,o,kvs,es,hvi,hG,hes,⟨hk,hrr⟩⟩,hf,q⟩
end
noncomputable def Itd (a:Addr)(o:Obj)(kvs:List (Key×V)):It:=
 ⟨fun i H=>H a=some (.frz o (.dK kvs))∧i < kvs.length,fun i H x H'=>H'=H∧∃ kv,kvs[i]?=some kv∧x=kV kv.1,fun i H=>H a=some (.frz o (.dK kvs))∧kvs.length≤i⟩
theorem b4E {k:Key}{v:Value}(h:a22 k v=true):RelV (kV k) v:=by
 rcases A3 h with ⟨i,t,rfl,rfl⟩ | ⟨x,t,rfl,rfl⟩
 ·exact ⟨t,rfl⟩
 ·exact ⟨t,rfl⟩
theorem a94 {P:Program}{w:World}{K:PySem.W.Frag}{tg:Expr}(a it:Addr)(o:Obj)(kvs:List (Key×V))(ep:Nat)(hep:∃ es,o.data=.dict es ep):Turn P w K tg (Itd a o kvs) [it] it (fun i h=>h.IsKeyIter it a i kvs.length ep) where
 mem:=by simp
 obj:=fun i h st b hb=>by
  have e:b=it:=by simpa using hb
  subst e
  refine j7 (st) fun o e c d=>?_
  exact ⟨o,e,fun v z=>by rw [d] at z; cases z⟩
 keep:=fun i h h' st k=>by
  refine j7 (st) fun o e c d=>?_
  exact ⟨o,k it (by simp) o e,c,d⟩
 item:=by
  intro X hP hw hK hc i pins s σ H E I hf st hg
  subst hP hw hK
  refine f9 (hg) fun hH hlt=>?_
  obtain ⟨ho,z1,z2,vs,rel,o',es',ep',ho',r1,r2,r3⟩:=(show D8 X.prog X.w H s.heap a (.frz o (.dK kvs)) from I.hok a _ hH)
  refine g8 (hep) fun es hes=>?_
  have eo:o'=o:=by rw [ho] at ho'; exact (Option.some.inj ho').symm
  subst eo
  have eep:ep'=ep:=by rw [hes] at r2; cases r2; rfl
  subst eep
  have hl:=rel.length
  have hm:s.heap.DictAt (x8 X.prog X.w) a vs ep':=⟨o',es',ho,r1,r2,r3⟩
  refine P0 (hf it (by simp)) fun f0 f1 f2 f3 f4 f5=>?_
  have hvi:vs[i]?=some vs[i]:=List.getElem?_eq_getElem (by omega)
  have hki:kvs[i]?=some kvs[i]:=List.getElem?_eq_getElem hlt
  have hkk:kvs[i].1=vs[i].1:=(a1K rel hki hvi).1
  refine wpAny_pyNext_dict_item (kvs:=vs) (k:=vs[i].1) (v:=vs[i].2) (by rw [← hl]; exact st) hm (by rw [hvi]) fun key h' hkey st' sb=>?_
  have I1:Inv X pins σ H { s with heap:=h' }:=I.turned (t':=s.toks) (fun b o hb e=>(sb.2 b hb).trans e) f0 f1 f3 f4 f5
  refine j7 (id st') fun oi e c d=>?_
  refine ⟨key,rfl,a35 (s:={ s with heap:=h' }) e c d (by decide) ⟨kV kvs[i].1,H,I1,?_,⟨rfl,kvs[i],hki,rfl⟩,by rw [hl]; exact st',fun b hb=>(hf b hb).1⟩⟩
  rw [hkk]
  exact b4E hkey
 done:=by
  intro X hP hw hK hc i pins s σ H E I hf st hg
  subst hP hw hK
  refine f9 (hg) fun hH hle=>?_
  obtain ⟨ho,z1,z2,vs,rel,o',es',ep',ho',r1,r2,r3⟩:=(show D8 X.prog X.w H s.heap a (.frz o (.dK kvs)) from I.hok a _ hH)
  refine g8 (hep) fun es hes=>?_
  have eo:o'=o:=by rw [ho] at ho'; exact (Option.some.inj ho').symm
  subst eo
  have eep:ep'=ep:=by rw [hes] at r2; cases r2; rfl
  subst eep
  have hl:=rel.length
  have hm:s.heap.DictAt (x8 X.prog X.w) a vs ep':=⟨o',es',ho,r1,r2,r3⟩
  refine P0 (hf it (by simp)) fun f0 f1 f2 f3 f4 f5=>?_
  exact wpAny_pyNext_dict_end (I.ok.hd hc) (kvs:=vs) (by rw [← hl]; exact st) hm (List.getElem?_eq_none (by omega)) fun h' eb=>⟨rfl,I.turned (t':=s.toks) (fun b o hb e=>eb b o hb e) f0 f1 f3 f4 f5⟩
 self:=fun _ _ _ _ _ st h=>wpAny_pyIter_keyiter st h
section
variable {X:Cx}{tg:Expr}
theorem b4v {l:Expr}{tl:TE}(hl:PE X l tl):PI X tg l (fun σ H R=>tl σ H fun x H1=>∃ a o kvs,x=.ref a∧H1 a=some (.frz o (.dK kvs))∧R (Itd a o kvs) H1):=by
 intro pins s σ H R I h
 refine E6 (hl pins s σ H _ I h) fun v s1 Z0=>i9 (Z0) fun x H1 I1 r1 Z9=>E5 Z9 fun a o kvs ex hH q=>?_
 subst ex
 cases r1
 obtain ⟨ho,z1,z2,vs,rel,o',es',ep,ho',r1,r2,r3⟩:=(show D8 X.prog X.w H1 s1.heap a (.frz o (.dK kvs)) from I1.hok a _ hH)
 have eo:o'=o:=by rw [ho] at ho'; exact (Option.some.inj ho').symm
 subst eo
 have hlen:=rel.length
 refine wpAny_pyIter_dict (knd:=x8 X.prog X.w) (kvs:=vs) (ep:=ep) z2 ⟨o',es',ho,r1,r2,r3⟩ ?_
 refine ⟨s1.heap.objs.size,[s1.heap.objs.size],_,_,H1,rfl,I1.kept (t':=s1.toks) fun b o e=>Heap.get?_push_of_some _ e,a94 a _ o' kvs ep ⟨es',r2⟩,?_,fun b hb=>?_,q⟩
 ·rw [hlen]
  exact ⟨_,Heap.get?_push_size _ rfl,rfl,rfl⟩
 ·have e:b=s1.heap.objs.size:=by simpa using hb
  subst e
  exact I1.b2W (Nat.le_refl _) (I1.hok.fresh (Nat.le_refl _))
end
noncomputable def a24 (k:Key):D:=match k with
 | .inl i=>D.int i
 | .inr x=>D.str x.cps.toList
noncomputable def a5K (i:Nat):M (List D):=fun ρ=>match ρ[i]? with
 | some (some (.fz es))=>some (.ok (es.map fun e=>a24 e.1) ρ)
 | _=>none
theorem b4w {K:PySem.W.Frag}{G:Hp}(k:Key):Rep K G (kV k) (a24 k):=by
 cases k with
 | inl i=>exact .int i
 | inr x=>exact a3M x
section
variable {X:Cx}{B:Bs}{tg:Expr}
theorem b5B (i:Nat){x:Str}{pos:Pos}(hN:autoParam (X.N[i]?=some x) m6._auto_1)(hv:autoParam (Vis X.env.scope x) au0._auto_1)(hd:autoParam ((x == ("__debug__":Str))=false) Y0._auto_1) (hcd:autoParam ((x == ("__classdict__":Str))=false) Y0._auto_1):PDI X B tg (.Name x pos) (a5K i):=.mk fun ξ=>
 (b4v (a0u (X:=rz X ξ) (i:=i) (pos:=pos) hN hv hd hcd)).imp fun σ H Rr t=>by
  refine E5 (t) fun G ρ r R e p=>?_
  unfold a5K at e
  split at e
  ·rename_i es he
   cases e
   refine E5 (R.fz i es he) fun a o kvs q1 q2 q3=>?_
   refine ⟨.ref a,q1,a,o,kvs,rfl,R.gH _ _ q2,p (Itd a o kvs) G H (i6.refl _) R ⟨fun G1 H1 j s1 s2 hj=>?_,fun G1 H1 s1 s2=>?_,fun G1 H1 H2 j y s1 s2 hj hy=>?_⟩⟩
   ·refine ⟨s2 _ _ (s1 _ _ q2),?_⟩
    rw [List.length_map,← q3.len] at hj
    exact hj
   ·refine ⟨s2 _ _ (s1 _ _ q2),?_⟩
    rw [List.length_map,← q3.len]
    exact Nat.le_refl _
   ·refine f9 (hy) fun Z1 Z9=>c6 Z9 fun kv hk Z2=>?_; subst Z1; subst Z2
    have hk':(kvs.map (·.1))[j]?=some kv.1:=by rw [List.getElem?_map,hk]; rfl
    rw [q3.keys,List.getElem?_map] at hk'
    refine c6 (Option.map_eq_some_iff.mp hk') fun e he1 he2=>?_
    refine ⟨rfl,a24 kv.1,?_,b4w _⟩
    rw [List.getElem?_map,he1]
    show some (a24 e.1)=_
    rw [he2]
  ·cases e
end
end L3
set_option Elab.async false
set_option linter.all false
set_option maxRecDepth 100000
set_option maxHeartbeats 4000000
namespace L3
open PySem PySem.Spec PyProof.Rows L2
theorem Z8 {K:PySem.W.Frag}{G:Hp}{x:Str}{cs:List Nat}(h:x.cps.toList=cs):Rep K G (.str x) (.str cs):=by
 subst h
 exact a3M x
theorem a8q.imp {K:PySem.W.Frag}{ms:List Bool}{i:Nat}{fm fm':List D→Option FR}(h:∀ ds r,fm ds=some r→fm' ds=some r):∀ vs H Q E,a8q K ms i fm vs H Q E→a8q K ms i fm' vs H Q E:=by
 rintro vs H Q E ⟨G,ds,ps,r,a,b,b2,c,d⟩
 exact ⟨G,ds,ps,r,a,b,b2,h ds r c,d⟩
end L3
set_option Elab.async false
set_option linter.all false
set_option maxRecDepth 100000
set_option maxHeartbeats 4000000
namespace L3
open PySem L2
section
variable {tg:FT}{b:SM}{c:M Bool}{ρ ρ1 ρ2:k9}{d:D}{ds:List D}{w:W}{n i j:Nat}{r:Option SR}{es:List (Key×D)}
theorem b4O:forL tg b [] ρ=some (.nx ρ):=rfl
theorem U7 (h1:tg d ρ=some ρ1)(h2:b ρ1=some (.nx ρ2))(h3:forL tg b ds ρ2=r):forL tg b (d::ds) ρ=r:=by
 unfold forL
 rw [h1]
 simp only [h2]
 exact h3
theorem b5A (h1:tg d ρ=some ρ1)(h2:b ρ1=some (.rt w ρ2)):forL tg b (d::ds) ρ=some (.rt w ρ2):=by
 unfold forL
 rw [h1]
 simp only [h2]
theorem b4F (hc:c ρ=some (.ok false ρ1)):B4 c b (n + 1) ρ=some (.nx ρ1):=by
 unfold B4
 rw [u5 hc]
 rfl
theorem a1Z (hc:c ρ=some (.ok true ρ1))(hb:b ρ1=some (.nx ρ2))(h:B4 c b n ρ2=r):B4 c b (n + 1) ρ=r:=by
 unfold B4
 rw [u5 hc]
 show (match b ρ1 with | some (.nx ρ2)=>B4 c b n ρ2 | some (.ct ρ2)=>B4 c b n ρ2 | some (.bk ρ2)=>some (.nx ρ2) | r=>r)=r
 rw [hb]
 exact h
theorem a3K (hc:c ρ=some (.ok true ρ1))(hb:b ρ1=some (.rt w ρ2)):B4 c b (n + 1) ρ=some (.rt w ρ2):=by
 unfold B4
 rw [u5 hc]
 show (match b ρ1 with | some (.nx ρ2)=>B4 c b n ρ2 | some (.ct ρ2)=>B4 c b n ρ2 | some (.bk ρ2)=>some (.nx ρ2) | r=>r)=_
 rw [hb]
theorem b32 (h:ρ[i]?=some (some (.fz es))):a5K i ρ=some (.ok (es.map fun e=>a24 e.1) ρ):=by
 unfold a5K
 rw [h]
theorem a9Q {den:SM}{ms:List Bool}{sr:SR}{fr:FR}(h:den (b2q i (A1 n ms ds))=some sr)(ho:a8u ms sr=some fr):a3j den n ms i ds=some fr:=by unfold a3j; rw [h]; exact ho
end
end L3
set_option Elab.async false
set_option linter.all false
set_option maxRecDepth 100000
set_option maxHeartbeats 4000000
namespace L3
open PySem PySem.Spec PyProof.Rows L2
noncomputable def isD:D→D→Option W
 | .bl b,.bl c=>vB (b == c)
 | .w6,.bl _=>vB false
 | _,_=>none
noncomputable def a7P:D→D→Option W
 | .bl b,.bl c=>vB (!(b == c))
 | .w6,.bl _=>vB true
 | _,_=>none
theorem b2X {X:Cx}:OpR X (compareOp .Is) (fun x y H Q=>∃ c,y=.bl c∧((∃ b,x=.bl b∧Q (.bl (b == c)) H)∨(x=.w6∧Q (.bl false) H))):=by
 intro pins s σ H x y v u Q I rx ry h
 obtain ⟨c,rfl,⟨b,rfl,q⟩ | ⟨rfl,q⟩⟩:=h <;> cases rx <;> cases ry <;> refine wpAny_pure (a4J I q ?_) <;> cases c <;> first | rfl | (cases b <;> rfl)
theorem b18 {X:Cx}:OpR X (compareOp .IsNot) (fun x y H Q=>∃ c,y=.bl c∧((∃ b,x=.bl b∧Q (.bl (!(b == c))) H)∨(x=.w6∧Q (.bl true) H))):=by
 intro pins s σ H x y v u Q I rx ry h
 obtain ⟨c,rfl,⟨b,rfl,q⟩ | ⟨rfl,q⟩⟩:=h <;> cases rx <;> cases ry <;> refine wpAny_pure (a4J I q ?_) <;> cases c <;> first | rfl | (cases b <;> rfl)
section
variable {X:Cx}{B:Bs}{e a b c:Expr}{ma mb mc:M W}{pos:Pos}
theorem a7V:a0R B (fun x y H Q=>∃ c,y=.bl c∧((∃ b,x=.bl b∧Q (.bl (b == c)) H)∨(x=.w6∧Q (.bl false) H))) isD:=by
 intro G H σ ρ x y dx dy w Q R hx hy e p
 match dx,dy,e with
 | .bl b,.bl c,e=>
  cases e
  exact ⟨c,hy.bl,.inl ⟨b,hx.bl,p _ G H (i6.refl _) R (.bl _)⟩⟩
 | .w6,.bl c,e=>
  cases e
  exact ⟨c,hy.bl,.inr ⟨hx.w6,p _ G H (i6.refl _) R (.bl _)⟩⟩
theorem a8g:a0R B (fun x y H Q=>∃ c,y=.bl c∧((∃ b,x=.bl b∧Q (.bl (!(b == c))) H)∨(x=.w6∧Q (.bl true) H))) a7P:=by
 intro G H σ ρ x y dx dy w Q R hx hy e p
 match dx,dy,e with
 | .bl b,.bl c,e=>
  cases e
  exact ⟨c,hy.bl,.inl ⟨b,hx.bl,p _ G H (i6.refl _) R (.bl _)⟩⟩
 | .w6,.bl c,e=>
  cases e
  exact ⟨c,hy.bl,.inr ⟨hx.w6,p _ G H (i6.refl _) R (.bl _)⟩⟩
theorem b8o (ha:PD X B a ma)(hb:PD X B b mb)(hm:autoParam (behindInMarks .Is b=false) au5._auto_1):PDT X B (.Compare a [.Is] [b] pos) (x9 (g9 isD ma mb)):=X5 (fun _=>b2X) a7V ha hb hm
theorem b7q (ha:PD X B a ma)(hb:PD X B b mb)(hm:autoParam (behindInMarks .Is b=false) au5._auto_1):PD X B (.Compare a [.Is] [b] pos) (g9 isD ma mb):=a4G (fun _=>b2X) a7V ha hb hm
theorem b3W (ha:PD X B a ma)(hb:PD X B b mb)(hm:autoParam (behindInMarks .IsNot b=false) au5._auto_1):PD X B (.Compare a [.IsNot] [b] pos) (g9 a7P ma mb):=a4G (fun _=>b18) a8g ha hb hm
end
end L3
set_option Elab.async false
set_option linter.all false
set_option maxRecDepth 100000
set_option maxHeartbeats 4000000
set_option Elab.async false
set_option linter.all false
set_option maxRecDepth 100000
set_option maxHeartbeats 4000000
set_option Elab.async false
set_option linter.all false
set_option maxRecDepth 100000
set_option maxHeartbeats 4000000
set_option Elab.async false
set_option linter.all false
set_option maxRecDepth 100000
set_option maxHeartbeats 4000000
set_option Elab.async false
set_option linter.all false
set_option maxRecDepth 100000
set_option maxHeartbeats 4000000
set_option Elab.async false
set_option linter.all false
set_option maxRecDepth 100000
set_option maxHeartbeats 4000000
set_option Elab.async false
set_option linter.all false
set_option maxRecDepth 100000
set_option maxHeartbeats 4000000
set_option Elab.async false
set_option linter.all false
set_option maxRecDepth 100000
set_option maxHeartbeats 4000000
set_option Elab.async false
set_option linter.all false
set_option maxRecDepth 100000
set_option maxHeartbeats 4000000
set_option Elab.async false
set_option linter.all false
set_option maxRecDepth 100000
set_option maxHeartbeats 4000000
set_option Elab.async false
set_option linter.all false
set_option maxRecDepth 100000
set_option maxHeartbeats 4000000
set_option Elab.async false
set_option linter.all false
set_option maxRecDepth 100000
set_option maxHeartbeats 4000000
namespace L3
open PySem PySem.Spec PyProof.Rows L2
noncomputable def Kept (h h':Heap):Prop:=∀ b o,h.get? b=some o→h'.get? b=some o
end L3
set_option Elab.async false
set_option linter.all false
set_option maxRecDepth 100000
set_option maxHeartbeats 4000000
set_option Elab.async false
set_option linter.all false
set_option maxRecDepth 100000
set_option maxHeartbeats 4000000
set_option Elab.async false
set_option linter.all false
set_option maxRecDepth 100000
set_option maxHeartbeats 4000000
set_option Elab.async false
set_option linter.all false
set_option maxRecDepth 100000
set_option maxHeartbeats 4000000
namespace L3
open PySem PySem.Spec PyProof.Rows L2
open AutoSeq1 (wpAny_loadPart')
theorem b8a (a v:Value):checkTypeCall "enumerate" ⟨[a],[("start",v)]⟩=pure ():=by kernel_rfl
theorem b7t (a v:Value):checkBuiltinCall "enumerate.__new__" ⟨[.type "enumerate",a],[("start",v)]⟩=pure ():=by kernel_rfl
theorem b8C (o a v:Value):argsOk "object.__init__" ⟨[o,a],[("start",v)]⟩:=by unfold argsOk; kernel_rfl
theorem b6j (l:Addr)(items:Array Value)(n:Nat)(dct:Option Addr)(sl:Array (Option Value))(t:Tok):
  Meets (Builtin.«enumerate.__new__» ⟨[.type "enumerate",.ref l],[("start",.int 1 t)]⟩) (fun _ R s=>s.heap.get? l=some { cls:=.type "list",dict:=dct,data:=.seq items n,slots:=sl }∧
   R (.ok (.ret (.ref (s.heap.push { cls:=.type "list_iterator",data:=.fields #[.ref l,.int 0 0] }).objs.size)))
    { s with heap:=(s.heap.push { cls:=.type "list_iterator",data:=.fields #[.ref l,.int 0 0] }).push { cls:=.type "enumerate",data:=.fields #[.none,.bool false,.ref s.heap.objs.size,rawInt 1,.none,.none] } }):=
 .of_wp fun prog w A R s h=>by
  obtain ⟨hp,g,d,tk,os⟩:=s
  refine f9 (h) fun hl h=>?_
  have hsub:=sub_enumerate
  have hL:Heap.IsList (Shared.heap ⟨hp,g,d,tk,os⟩) l items:=⟨_,hl,rfl,n,rfl⟩
  wp_walk using wpAny_loadPart' hl
  refine wpAny_stack_any fun st=>wpAny_pure ?_
  split
  ·rename_i c _ _ _ _ _
   cases (c == Value.type "enumerate")
   ·wp_walk using wpAny_loadPart' hl,wpAny_pyIter_list hL
    all_goals exact ⟨_,rfl,h⟩
   ·wp_walk using wpAny_loadPart' hl,wpAny_pyIter_list hL
    all_goals exact ⟨_,rfl,h⟩
  ·wp_walk using wpAny_loadPart' hl,wpAny_pyIter_list hL
   all_goals exact ⟨_,rfl,h⟩
theorem b4C {T newId:String}{self:Value}{rest:List Value}{kw:List (Str×Value)}(hl:typeLookup (.type T) "__init__"=pure (some (.builtin "object.__init__")))
  (hm:Bind.madeBy (.type T)=pure (some newId)) (hne:(some newId != some "object.__new__")=true):
  Meets (Builtin.«object.__init__» ⟨self::rest,kw⟩) (fun _ R s=>s.TypeIs self T∧R (.ok (.ret .none)) s):=by
 refine Meets.of_wp fun prog w A R s hs=>?_
 refine f9 (hs) fun hT hq=>?_
 cases rest with
 | nil=>
  cases kw with
  | nil=>exact wpAny_pure ⟨_,rfl,hq⟩
  | cons k kw=>
   repeat (any_goals (first | assumption | wp_step))
   exact ⟨_,rfl,hq⟩
 | cons a rest=>
  repeat (any_goals (first | assumption | wp_step))
  exact ⟨_,rfl,hq⟩
section
variable {prog:Program}{w:World}{A:Around}{E:Value→Shared→Prop}{s:Shared}
theorem b3y {l:Addr}{items:Array Value}{t:Tok}{Q:Value→Shared→Prop}(hL:s.heap.IsList l items)
  (h:∀ h',IsEnum h' (s.heap.objs.size + 1) s.heap.objs.size 1 .none→h'.IsListIter s.heap.objs.size l 0→Kept s.heap h'→Q (.ref (s.heap.objs.size + 1)) { s with heap:=h' }):
  wpAny (model prog w) A (call (.type "enumerate") [.ref l] [("start",.int 1 t)]) Q E s:=by
 obtain ⟨⟨c,dct,dt,sl⟩,hl,hc,n,hd⟩:=hL
 replace hc:c=.type "list":=hc
 replace hd:dt=.seq items n:=hd
 subst hc hd
 have ft:=F.called_enumerate
 refine A6 (ft.mro) fun c tl hmro=>?_
 have hmade:=ft.made
 have hsub:=ft.sub
 have hct:=b8a (.ref l) (.int 1 t)
 have hz:(s.heap.push { cls:=.type "list_iterator",data:=.fields #[.ref l,.int 0 0] }).objs.size=s.heap.objs.size + 1:=Heap.size_push ..
 refine wpAny_call (codeAny_of_tree (show wpAny _ _ (callAny (.type "enumerate") _) _ _ _ from wpAny_pure ⟨Code.quiet_builtin _ (by decide +kernel),codeAny_builtin F.entry_type_call ?_⟩))
 rw [Around.under_plain (weight_type_call_type "enumerate" [.ref l] [("start",.int 1 t)]) (units_type_call_type "enumerate" [.ref l] [("start",.int 1 t)])]
 have h1:=ft.notType
 have h2:=ft.canCreate
 repeat (any_goals (first | assumption | wp_step))
 refine codeAny_mono (codeAny_call_builtin ft.plain F.entry_enumerate_new (wpAny_of_eq (b7t (.ref l) (.int 1 t)) (b6j l items n dct sl t prog w A.in1 (wants (fun obj s1=>obj=.ref (s.heap.objs.size + 1)∧s1={ s with heap:=(s.heap.push { cls:=.type "list_iterator",data:=.fields #[.ref l,.int 0 0] }).push { cls:=.type "enumerate",data:=.fields #[.none,.bool false,.ref s.heap.objs.size,rawInt 1,.none,.none] } }) E) s ⟨hl,by rw [hz]; exact ⟨rfl,rfl⟩⟩))) fun r s1 hr=>?_
 cases r with
 | error e=>exact hr
 | ok fl=>
  cases fl with
  | ret obj=>
   refine f9 (hr) fun Z1 Z2=>?_; subst Z1; subst Z2
   have he:IsEnum ((s.heap.push { cls:=.type "list_iterator",data:=.fields #[.ref l,.int 0 0] }).push { cls:=.type "enumerate",data:=.fields #[.none,.bool false,.ref s.heap.objs.size,rawInt 1,.none,.none] }) (s.heap.objs.size + 1) s.heap.objs.size 1 .none:=by
    have:=Heap.get?_push_size (s.heap.push { cls:=.type "list_iterator",data:=.fields #[.ref l,.int 0 0] }) (o:={ cls:=.type "enumerate",data:=.fields #[.none,.bool false,.ref s.heap.objs.size,rawInt 1,.none,.none] }) rfl
    rw [hz] at this
    exact this
   have hq:=h _ he ⟨_,Heap.get?_push_of_some _ (Heap.get?_push_size _ rfl),rfl,rfl⟩ (fun b o x=>Heap.get?_push_of_some _ (Heap.get?_push_of_some _ x))
   have hT:({ s with heap:=(s.heap.push { cls:=.type "list_iterator",data:=.fields #[.ref l,.int 0 0] }).push { cls:=.type "enumerate",data:=.fields #[.none,.bool false,.ref s.heap.objs.size,rawInt 1,.none,.none] } }:Shared).TypeIs (.ref (s.heap.objs.size + 1)) "enumerate":=⟨_,he,rfl⟩
   have hli:=ft.init.lookup
   have hbi:=ft.init.bind (.ref (s.heap.objs.size + 1))
   repeat (any_goals (first | assumption | wp_step))
   refine codeAny_mono (codeAny_call_builtin ft.init.plain F.entry_object_init (ft.init.check _ _ _ _ _ _ _ _ hT (b8C _ _ _) (b4C ft.init.lookup ft.made (by decide) prog w A.in1 (wants (fun r s2=>r=.none∧Q (.ref (s.heap.objs.size + 1)) s2) E) _ ⟨hT,rfl,hq⟩))) fun r2 s2 hr2=>?_
   cases r2 with
   | error e=>exact hr2
   | ok fl2=>
    cases fl2 with
    | ret r=>
     refine f9 (hr2) fun Z1 hq=>?_; subst Z1
     repeat (any_goals (first | assumption | wp_step))
    | _=>exact hr2.elim
  | _=>exact hr.elim
end
end L3
set_option Elab.async false
set_option linter.all false
set_option maxRecDepth 100000
set_option maxHeartbeats 4000000
namespace L3
open PySem PySem.Spec PyProof.Rows L2
theorem a80:typeLookup (.type "enumerate") "keys"=pure none:=by rw [typeLookup_type,builtinLookup_eq_fast]; kernel_rfl
theorem a5d:typeLookup (.type "enumerate") "__getattr__"=pure none:=by rw [typeLookup_type,builtinLookup_eq_fast]; kernel_rfl
theorem a7C:entryFor table "enumerate.__getattribute__"=some Builtin.«object.__getattribute__»:=
 entryFor_alias (id':="object.__getattribute__") (by kernel_rfl) (by first | rfl | decide +kernel | (unfold String.splitOn; simp +decide [String.splitOnAux])) (by decide +kernel) (by kernel_rfl)
section
variable {prog:Program}{w:World}{A:Around}{E:Value→Shared→Prop}{h:Heap}{g:Array GenState}{d:Drawn}{t:Nat}{os:OsState}{a:Addr}{fs:Array Value}
theorem a49 {tk:Tok}{Q:Fin→Shared→Prop}(hh:A.handled=none)(hx:h.get? a=some { cls:=.type "enumerate",dict:=none,data:=.fields fs,slots:=#[] })
   (hE:∀ x h' t',(∀ b o,h.get? b=some o→h'.get? b=some o)→(∃ o,h'.get? x=some o∧o.cls=.type "AttributeError")→E (.ref x) ⟨h',g,d,t',os⟩):
    wpAny (model prog w) A (Builtin.«object.__getattribute__» ⟨[.ref a,.str "keys" tk],[]⟩) Q E ⟨h,g,d,t,os⟩:=by
  have hT:(⟨h,g,d,t,os⟩:Shared).TypeIs (.ref a) "enumerate":=⟨_,hx,rfl⟩
  have f4:=a80
  repeat (any_goals (first | assumption | wp_step))
  refine PySem.a4Q hh ?_ hE
  decide +kernel
theorem a6h {tk:Tok}{R:Result→Shared→Prop}(hh:A.handled=none)(hx:h.get? a=some { cls:=.type "enumerate",dict:=none,data:=.fields fs,slots:=#[] })
   (hE:∀ x h' t',(∀ b o,h.get? b=some o→h'.get? b=some o)→(∃ o,h'.get? x=some o∧o.cls=.type "AttributeError")→R (.error (.ref x)) ⟨h',g,d,t',os⟩):
    codeAny (model prog w) A (.call (.builtin "enumerate.__getattribute__") ⟨[.ref a,.str "keys" tk],[]⟩) R ⟨h,g,d,t,os⟩:=
  codeAny_call_builtin F.slot_enumerate_getattribute.plain a7C (F.slot_enumerate_getattribute.check _ _ _ _ _ _ _ _ (show (⟨h,g,d,t,os⟩:Shared).TypeIs (.ref a) "enumerate" from ⟨_,hx,rfl⟩) (F.args_enumerate_getattribute_2 _ _) (a49 hh hx hE))
theorem a8V {tk:Tok}{Q:Value→Shared→Prop}(hh:A.handled=none)(hx:h.get? a=some { cls:=.type "enumerate",dict:=none,data:=.fields fs,slots:=#[] })
   (hE:∀ x h' t',(∀ b o,h.get? b=some o→h'.get? b=some o)→(∃ o,h'.get? x=some o∧o.cls=.type "AttributeError")→E (.ref x) ⟨h',g,d,t',os⟩):wpAny (model prog w) A (getAttrBy (.ref a) (.str "keys" tk) false) Q E ⟨h,g,d,t,os⟩:=by
  have hT:(⟨h,g,d,t,os⟩:Shared).TypeIs (.ref a) "enumerate":=⟨_,hx,rfl⟩
  have f2:=F.slot_enumerate_getattribute.lookup
  have f3:=F.slot_enumerate_getattribute.bind (.ref a)
  have f5:=a5d
  have f6:=PySem.F.L7
  repeat (any_goals (first | assumption | wp_step))
  refine a6h hh hx fun x h' t' kp ex=>?_
  have hT':(⟨h',g,d,t',os⟩:Shared).TypeIs (.ref x) "AttributeError":=ex
  repeat (any_goals (first | assumption | wp_step))
  exact hE x h' t' kp ex
theorem a58 {Q:Option Value→Shared→Prop}(hh:A.handled=none)(hx:h.get? a=some { cls:=.type "enumerate",dict:=none,data:=.fields fs,slots:=#[] })
   (hQ:∀ h' t',(∀ b o,h.get? b=some o→h'.get? b=some o)→Q none ⟨h',g,d,t',os⟩):wpAny (model prog w) A (getAttr? (.ref a) "keys") Q E ⟨h,g,d,t,os⟩:=by
  unfold getAttr? getAttrBy?
  have f6:=PySem.F.L7
  repeat (any_goals (first | assumption | with_reducible apply a8V hh hx | wp_step))
  intro x h' t' kp ex
  have hT':(⟨h',g,d,t',os⟩:Shared).TypeIs (.ref x) "AttributeError":=ex
  repeat (any_goals (first | assumption | wp_step))
  exact hQ h' t' kp
end
structure a8a (b0:Nat) (h:Heap) (e it:Addr) (i:Int):Prop where
 ex:∃ f0 f1 old,h.get? e=some { cls:=.type "enumerate",dict:=none,data:=.fields #[f0,.bool f1,.ref it,rawInt i,.none,old],slots:=#[] }∧(f0=.none∨∃ (a:Nat) (o:Obj),f0=rawInt a∧b0≤a∧a≠e∧a≠it∧h.get? a=some o)
theorem a7O {M:Model}{A:Around}{E:Value→Shared→Prop}{s:Shared}{a:Addr}{Q:Option Obj→Shared→Prop}(h:Q (s.heap.get? a) s):wpAny M A (loadIfAlive a) Q E s:=fun _ _ _=>h
section
variable {prog:Program}{w:World}{A:Around}{E:Value→Shared→Prop}{s:Shared}
theorem b2d {b0:Nat}{e it l:Addr}{j:Nat}{i:Int}{items:Array Value}{x:Value}{Q:Value→Shared→Prop}(hE:a8a b0 s.heap e it i)(hI:s.heap.IsListIter it l j)(hl:s.heap.IsList l items)(hx:items[j]?=some x)(hne:e≠it)(hb0:b0≤s.heap.objs.size)
  (hQ:∀ h',a8a b0 h' e it (i + 1)→h'.IsListIter it l (j + 1)→h'.get? s.heap.objs.size=some { cls:=.type "tuple",data:=.seq #[.int i s.toks,x] }→(∀ b o,b≠e→b≠it→s.heap.get? b=some o→h'.get? b=some o)→Q (.ref s.heap.objs.size) { s with heap:=h',toks:=s.toks + 1 }):
  wpAny (model prog w) A (Builtin.«enumerate.__next__» ⟨[.ref e],[]⟩) (fun fin s'=>∃ v,fin=.done (.ret v)∧Q v s') E s:=by
 obtain ⟨hp,g,d,tk,os⟩:=s
 refine D0 (hE.ex) fun f0 f1 old h0 hf=>?_
 refine wpAny_bind (m:=field (.ref e) 2) (wpAny_field h0 rfl (x:=.ref it) rfl (wpAny_bind (wpAny_nextOf_list_item hI hl hx fun h1 hI1 b1=>?_)))
 have b1:Heap.SameBut it hp h1:=b1
 have g1:=(b1.2 e hne).trans h0
 refine wpAny_bind (m:=field (.ref e) 3) (wpAny_field (s:=⟨h1,g,d,tk,os⟩) g1 rfl (x:=rawInt i) rfl ?_)
 refine wpAny_bind (m:=field (.ref e) 4) (wpAny_field (s:=⟨h1,g,d,tk,os⟩) g1 rfl (x:=.none) rfl ?_)
 refine wpAny_bind (m:=mkInt i) (wpAny_mkInt ?_)
 refine wpAny_bind (m:=setField (.ref e) 3 (rawInt (i + 1))) (wpAny_setField_rec (s:=⟨h1,g,d,tk + 1,os⟩) g1 (by simp) fun h2 g2 b2=>?_)
 have b2:Heap.SameBut e h1 h2:=b2
 refine wpAny_bind (m:=setField (.ref e) 4 .none) (wpAny_setField_rec (s:=⟨h2,g,d,tk + 1,os⟩) g2 (by simp) fun h3 g3 b3=>?_)
 have b3:Heap.SameBut e h2 h3:=b3
 have g3:h3.get? e=some { cls:=.type "enumerate",dict:=none,data:=.fields #[f0,.bool f1,.ref it,rawInt (i + 1),.none,old],slots:=#[] }:=g3
 refine wpAny_bind (m:=newTuple [.int i tk,x]) (wpAny_newTuple ?_)
 have hz:h3.objs.size=hp.objs.size:=by rw [b3.1,b2.1,b1.1]
 have g4:(h3.push { cls:=.type "tuple",data:=.seq #[.int i tk,x] }).get? e=some { cls:=.type "enumerate",dict:=none,data:=.fields #[f0,.bool f1,.ref it,rawInt (i + 1),.none,old],slots:=#[] }:=Heap.get?_push_of_some _ g3
 have t4:(h3.push { cls:=.type "tuple",data:=.seq #[.int i tk,x] }).get? hp.objs.size=some { cls:=.type "tuple",data:=.seq #[.int i tk,x] }:=by rw [← hz]; exact Heap.get?_push_size _ rfl
 have k4:∀ b o,b≠e→b≠it→hp.get? b=some o→(h3.push { cls:=.type "tuple",data:=.seq #[.int i tk,x] }).get? b=some o:=fun b o z1 z2 q=>Heap.get?_push_of_some _ ((b3.2 b z1).trans ((b2.2 b z1).trans ((b1.2 b z2).trans q)))
 have i4:(h3.push { cls:=.type "tuple",data:=.seq #[.int i tk,x] }).IsListIter it l (j + 1):=by
  refine c6 (hI1) fun o ho r=>?_
  exact ⟨o,Heap.get?_push_of_some _ ((b3.2 it (Ne.symm hne)).trans ((b2.2 it (Ne.symm hne)).trans ho)),r⟩
 have hel:e < hp.objs.size:=Heap.lt_size h0
 have hil:it < hp.objs.size:=by refine c6 (hI) fun o ho _=>?_; exact Heap.lt_size ho
 generalize h3.push { cls:=.type "tuple",data:=.seq #[.int i tk,x] }=h4 at *
 rw [hz]
 rcases hf with rfl | ⟨a,o,rfl,a0,ae,ai,ho⟩
 ·refine wpAny_bind (m:=Builtin.SmallTypes.ownedTupleIsFree (.ref e)) (wpAny_bind (wpAny_field (s:=⟨h4,g,d,tk + 1,os⟩) g4 rfl (x:=.none) rfl (wpAny_pure ?_)))
  simp only [if_true]
  refine wpAny_bind (wpAny_rule (wpAny_bind (wpAny_field (s:=⟨h4,g,d,tk + 1,os⟩) g4 rfl (x:=old) rfl (wpAny_bind (wpAny_setField_rec (s:=⟨h4,g,d,tk + 1,os⟩) g4 (by simp) fun h5 g5 b5=>?_)))))
  have b5:Heap.SameBut e h4 h5:=b5
  refine wpAny_bind (m:=Builtin.SmallTypes.ownedTupleHandOut (.ref e) (.ref hp.objs.size)) (wpAny_bind (wpAny_setField_rec (s:=⟨h5,g,d,tk + 1,os⟩) g5 (by simp) fun h6 g6 b6=>wpAny_setField_rec (s:=⟨h6,g,d,tk + 1,os⟩) g6 (by simp) fun h7 g7 b7=>?_))
  have b6:Heap.SameBut e h5 h6:=b6
  have b7:Heap.SameBut e h6 h7:=b7
  have k7:∀ b o,b≠e→h4.get? b=some o→h7.get? b=some o:=fun b o z q=>(b7.2 b z).trans ((b6.2 b z).trans ((b5.2 b z).trans q))
  have t7:=k7 _ _ (Nat.ne_of_gt hel) t4
  refine wpAny_bind (wpAny_letGo (wpAny_pure ⟨_,rfl,hQ h7 ⟨⟨_,_,_,g7,.inr ⟨hp.objs.size,_,rfl,hb0,Nat.ne_of_gt hel,Nat.ne_of_gt hil,t7⟩⟩⟩ ?_ t7 fun b o z1 z2 q=>k7 b o z1 (k4 b o z1 z2 q)⟩))
  refine c6 (i4) fun o ho r=>?_
  exact ⟨o,k7 _ _ (Ne.symm hne) ho,r⟩
 ·have ho4:=k4 a o ae ai ho
  have fin:∀ h7,(∃ f1',h7.get? e=some { cls:=.type "enumerate",dict:=none,data:=.fields #[rawInt a,.bool f1',.ref it,rawInt (i + 1),.none,old],slots:=#[] })→(∀ b o,b≠e→h4.get? b=some o→h7.get? b=some o)→Q (.ref hp.objs.size) ⟨h7,g,d,tk + 1,os⟩:=by
   intro h7 ⟨f1',g7⟩ k7
   refine hQ h7 ⟨⟨_,_,_,g7,.inr ⟨a,o,rfl,a0,ae,ai,k7 _ _ ae ho4⟩⟩⟩ ?_ (k7 _ _ (Nat.ne_of_gt hel) t4) fun b o z1 z2 q=>k7 b o z1 (k4 b o z1 z2 q)
   refine c6 (i4) fun o ho r=>?_
   exact ⟨o,k7 _ _ (Ne.symm hne) ho,r⟩
  refine wpAny_bind (m:=Builtin.SmallTypes.ownedTupleIsFree (.ref e)) (wpAny_bind (wpAny_field (s:=⟨h4,g,d,tk + 1,os⟩) g4 rfl (x:=rawInt a) rfl ?_))
  refine wpAny_bind (m:=loadIfAlive ((a:Int).toNat)) (a7O (s:=⟨h4,g,d,tk + 1,os⟩) ?_)
  rw [show ((a:Nat):Int).toNat=a from rfl]
  rw [show (Shared.heap ⟨h4,g,d,tk + 1,os⟩).get? a=some o from ho4]
  show wpAny _ _ (field (.ref e) 1 >>= fun _=>_) _ _ _
  refine wpAny_bind (wpAny_field (s:=⟨h4,g,d,tk + 1,os⟩) g4 rfl (x:=.bool f1) rfl ?_)
  cases f1 with
  | true=>exact wpAny_pure (wpAny_pure ⟨_,rfl,fin h4 ⟨true,g4⟩ fun _ _ _ q=>q⟩)
  | false=>exact wpAny_bind (wpAny_setField_rec (s:=⟨h4,g,d,tk + 1,os⟩) g4 (by simp) fun h7 g7 b7=>wpAny_pure (wpAny_pure ⟨_,rfl,fin h7 ⟨true,g7⟩ fun b o z q=>((show Heap.SameBut e h4 h7 from b7).2 b z).trans q⟩))
theorem b4k {b0:Nat}{e it l:Addr}{j:Nat}{i:Int}{items:Array Value}{x:Value}{Q:Option Value→Shared→Prop}(hE:a8a b0 s.heap e it i)(hI:s.heap.IsListIter it l j)(hl:s.heap.IsList l items)(hx:items[j]?=some x)(hne:e≠it)(hb0:b0≤s.heap.objs.size)
  (hQ:∀ h',a8a b0 h' e it (i + 1)→h'.IsListIter it l (j + 1)→h'.get? s.heap.objs.size=some { cls:=.type "tuple",data:=.seq #[.int i s.toks,x] }→(∀ b o,b≠e→b≠it→s.heap.get? b=some o→h'.get? b=some o)→Q (some (.ref s.heap.objs.size)) { s with heap:=h',toks:=s.toks + 1 }):
  wpAny (model prog w) A (pyNext (.ref e)) Q E s:=by
 refine D0 (id hE.ex) fun f0 f1 old h0 hf=>?_
 have hT:s.TypeIs (.ref e) "enumerate":=⟨_,h0,rfl⟩
 unfold pyNext
 exact wpAny_bind (wpAny_attempt (wpAny_callSpecial?_slot (name:=Str.ofString "__next__") hT F.slot_enumerate_next (wpAny_call_entry F.slot_enumerate_next hT F.entry_enumerate_next (b2d hE hI hl hx hne hb0 fun h' a b c k=>wpAny_pure (hQ h' a b c k)) (F.args_enumerate_next_1 _))))
theorem b6g {b0:Nat}{e it l:Addr}{j:Nat}{i:Int}{items:Array Value}{Q:Option Value→Shared→Prop}(hh:A.handled=none)(hE:a8a b0 s.heap e it i)(hI:s.heap.IsListIter it l j)(hl:s.heap.IsList l items)(hx:items[j]?=none)
  (hQ:∀ h',Heap.ExtBut it s.heap h'→Q none { s with heap:=h' }):wpAny (model prog w) A (pyNext (.ref e)) Q E s:=by
 refine D0 (id hE.ex) fun f0 f1 old h0 hf=>?_
 have hT:s.TypeIs (.ref e) "enumerate":=⟨_,h0,rfl⟩
 unfold pyNext
 refine wpAny_bind (wpAny_attempt (wpAny_callSpecial?_slot (name:=Str.ofString "__next__") hT F.slot_enumerate_next (wpAny_call_entry F.slot_enumerate_next hT F.entry_enumerate_next (wpAny_bind (m:=field (.ref e) 2) (wpAny_field h0 rfl (x:=.ref it) rfl ?_)) (F.args_enumerate_next_1 _))))
 refine wpAny_bind (wpAny_nextOf_list_end hh hI hl hx fun h' x he' hx'=>?_)
 refine c6 (hx') fun o ho hc=>?_
 exact wpAny_bind (wpAny_isInstance (T:="StopIteration") (b:=true) ⟨o,ho,hc⟩ isSubtype_stop (wpAny_pure (hQ _ he')))
end
end L3
set_option Elab.async false
set_option linter.all false
set_option maxRecDepth 100000
set_option maxHeartbeats 4000000
namespace L3
open PySem PySem.Spec PyProof.Rows L2
section
variable {prog:Program}{w:World}{A:Around}{E:Value→Shared→Prop}{K:Type}[DecidableEq K]{knd:KeyKind prog w K}
theorem b6d (d e it l : Addr) (items : Array Value) (ps : List (K × Value)) (hh : A.in1.handled = none) (hdl : l ≠ d) (hil : l ≠ it) (hel : l ≠ e) (hdi : d ≠ it) (hde : d ≠ e) (hei : e ≠ it) (b0 : Nat) (hdb : d < b0) (result : Value) (hlen : ps.length = items.size)
    (hps : ∀ (j : Nat) (p : K × Value), ps[j]? = some p → items[j]? = some p.2 ∧ ∀ tk, knd.is p.1 (.int ((j : Int) + 1) tk) = true) (R : Result → Shared → Prop) :
  ∀ (m i : Nat) (kvs : List (K × Value)) (s : Shared), m = ps.length - i → i ≤ ps.length → b0 ≤ s.heap.objs.size →
   s.heap.DictOf knd d kvs → a8a b0 s.heap e it ((i : Int) + 1) → s.heap.IsListIter it l i → s.heap.IsList l items → kvs.length + m ≤ sizeLine →
   (∀ h' tk, h'.DictOf knd d (merged kvs (ps.drop i)) → (∀ b o, b ≠ d → b ≠ it → b ≠ e → s.heap.get? b = some o → h'.get? b = some o) → R (.ok (.ret result)) { s with heap := h', toks := tk }) →
   codeAny (model prog w) A (.builtin "dict.update.loop" ⟨[.ref d, .ref e, rawInt i, result], []⟩) R s := by
  intro m
  induction m with
  | zero =>
    intro i kvs s hm hi hds hd hE hit hl hsz hR
    have hin : i = ps.length := by omega
    refine codeAny_builtin PySem.F.B3 (by
      rw [Around.under_plainId PySem.F.n9 _]
      show wpAny _ A.in1 (pyNext (.ref e) >>= fun _ => _) _ _ s
      refine wpAny_bind (b6g hh hE hit hl (by rw [Array.getElem?_eq_none]; omega) fun h' eb => ?_)
      show wpAny _ A.in1 (Builtin.Dict.addKeywords d [] >>= fun _ => ret result) _ _ _
      refine wpAny_bind (wpAny_pure (wpAny_pure (hR h' s.toks ?_ fun b o hb hb2 hb3 q => eb b o hb2 q)))
      rw [hin, List.drop_length]
      refine D0 (hd) fun o es ep ho rest => ?_
      exact ⟨o, es, ep, eb d o hdi ho, rest⟩)
  | succ m ih =>
    intro i kvs s hm hi hds hd hE hit hl hsz hR
    have hlt : i < ps.length := by omega
    refine f9 (hps i ps[i] (List.getElem?_eq_getElem hlt)) fun hx hkey => ?_
    refine codeAny_builtin PySem.F.B3 (by
      rw [Around.under_plainId PySem.F.n9 _]
      show wpAny _ A.in1 (pyNext (.ref e) >>= fun _ => _) _ _ s
      refine wpAny_bind (b4k hE hit hl hx hei hds fun h' hE' hit' ht kp => ?_)
      have hd' : h'.DictOf knd d kvs := by refine D0 (hd) fun o es ep ho rest => ?_; exact ⟨o, es, ep, kp d o hde hdi ho, rest⟩
      have hT : ({ s with heap := h', toks := s.toks + 1 } : Shared).TypeIs (.ref s.heap.objs.size) "tuple" := ⟨_, ht, rfl⟩
      show wpAny _ A.in1 (holding [Value.ref s.heap.objs.size] _ >>= fun _ => _) _ _ { s with heap := h', toks := s.toks + 1 }
      refine wpAny_bind (wpAny_holding (wpAny_bind (wpAny_tryCatch ?_)))
      unfold Builtin.Dict.pairItems
      refine wpAny_bind (wpAny_typeOf hT ?_)
      rw [if_pos (by decide)]
      refine wpAny_bind (wpAny_seqItems ht rfl (wpAny_pure ?_))
      show wpAny _ A.in1 (holding [.int ((i : Int) + 1) s.toks, ps[i].2] (dictSet d (.int ((i : Int) + 1) s.toks) ps[i].2)) _ _ { s with heap := h', toks := s.toks + 1 }
      refine wpAny_holding (wpAny_dictSet_pairs (s := { s with heap := h', toks := s.toks + 1 }) (k := ps[i].1) (hkey _) hd' (fun h2 hd2 sb2 => ?_) (by omega))
      have sb2 : Heap.SameBut d h' h2 := sb2
      have kp2 : ∀ b o, b ≠ d → b ≠ it → b ≠ e → s.heap.get? b = some o → h2.get? b = some o := fun b o z1 z2 z3 q => (sb2.2 b z1).trans (kp b o z3 z2 q)
      have hc : ((i : Int) + 1) = ((i + 1 : Nat) : Int) := by push_cast; rfl
      refine wpAny_pure ⟨plainId_quiet PySem.F.n9 _, ?_⟩
      refine D0 (hE'.ex) fun f0 f1 old g0 gf => ?_
      have g2 : h2.get? e = some { cls := .type "enumerate", dict := none, data := .fields #[f0, .bool f1, .ref it, rawInt ((i : Int) + 1 + 1), .none, old], slots := #[] } := (sb2.2 e (Ne.symm hde)).trans g0
      have hE2 : a8a b0 h2 e it (((i + 1 : Nat) : Int) + 1) := by
        refine ⟨⟨f0, f1, old, by rw [← hc]; exact g2, ?_⟩⟩
        rcases gf with gf | ⟨a, o, rfl, z0, z1, z2, z3⟩
        · exact .inl gf
        · exact .inr ⟨a, o, rfl, z0, z1, z2, (sb2.2 a (Nat.ne_of_gt (Nat.lt_of_lt_of_le hdb z0))).trans z3⟩
      rw [hc]
      refine ih (i + 1) (stored kvs ps[i].1 ps[i].2) { s with heap := h2, toks := s.toks + 1 + 1 } (by omega) (by omega) ?_ hd2 hE2 ?_ ?_ ?_ fun h3 tk hd3 kp3 => ?_
      · show b0 ≤ h2.objs.size
        rw [sb2.1]
        exact Nat.le_of_lt (Nat.lt_of_le_of_lt hds (Heap.lt_size ht))
      · refine c6 (hit') fun o ho rest => ?_
        exact ⟨o, (sb2.2 it (Ne.symm hdi)).trans ho, rest⟩
      · refine c6 (hl) fun o ho rest => ?_
        exact ⟨o, kp2 l o hdl hil hel ho, rest⟩
      · have := stored_length_le kvs ps[i].1 ps[i].2
        omega
      · refine hR h3 tk ?_ fun b o z1 z2 z3 q => kp3 b o z1 z2 z3 (kp2 b o z1 z2 z3 q)
        rw [List.drop_eq_getElem_cons hlt]
        exact hd3)
theorem a6f {s:Shared}{e it l:Addr}{items:Array Value}(ps:List (K×Value)){Q:Value→Shared→Prop}(hh:A.handled=none)(hE:IsEnum s.heap e it 1 .none)(hit:s.heap.IsListIter it l 0)(hl:s.heap.IsList l items)(hil:l≠it)(hel:l≠e)(hei:e≠it)(hlen:ps.length=items.size)(hsz:ps.length≤sizeLine)
  (hps:∀ (j:Nat) (p:K×Value),ps[j]?=some p→items[j]?=some p.2∧∀ tk,knd.is p.1 (.int ((j:Int) + 1) tk)=true)
  (h:∀ h' tk,h'.DictOf knd s.heap.objs.size (merged [] ps)→(∀ b o,b≠e→b≠it→s.heap.get? b=some o→h'.get? b=some o)→Q (.ref s.heap.objs.size) { s with heap:=h',toks:=tk }):
  wpAny (model prog w) A (call (.type "dict") [.ref e]) Q E s:=by
 refine callType_codes (Q₁:=fun obj s₁=>obj=.ref s.heap.objs.size∧s₁={ s with heap:=s.heap.push { cls:=.type "dict",data:=.dict #[] } }) F.kt_called_dict (F.kt_typeCall_dict_1 _) F.entry_dict_init (kt_code_dict_new _ ⟨rfl,rfl⟩) ?_
 rintro obj s₁ ⟨rfl,rfl⟩
 have hnew:(s.heap.push { cls:=.type "dict",data:=.dict #[] }).DictOf knd s.heap.objs.size []:=Heap.DictOf.new s.heap
 refine ⟨hnew.typeIs,F.args_dict_init_2 _ _,?_⟩
 unfold Builtin.«dict.__init__»
 refine wpAny_bind ?_
 unfold Builtin.Dict.selfAndRest
 refine wpAny_bind (wpAny_notOrdered_dict hnew.typeIs ?_)
 show wpAny _ _ (pure (s.heap.objs.size,[Value.ref e])) _ _ _
 refine wpAny_pure ?_
 show wpAny _ _ (Builtin.Dict.updateFrom "dict.__init__" s.heap.objs.size (.ref e) [] .none) _ _ _
 unfold Builtin.Dict.updateFrom
 have e1:(s.heap.push { cls:=.type "dict",data:=.dict #[] }).get? e=some { cls:=.type "enumerate",dict:=none,data:=.fields #[.none,.bool false,.ref it,rawInt 1,.none,.none],slots:=#[] }:=Heap.get?_push_of_some _ hE
 have elt:=Heap.lt_size hE
 refine wpAny_bind (wpAny_typeOf (T:="enumerate") ⟨_,e1,rfl⟩ ?_)
 rw [if_pos (by decide)]
 refine wpAny_bind (a58 (h:=s.heap.push { cls:=.type "dict",data:=.dict #[] }) (by exact hh) e1 fun h1 t1 kp1=>?_)
 rw [if_pos (show (none:Option Value).isNone=true from rfl)]
 have e2:=kp1 _ _ e1
 refine wpAny_bind (wpAny_rule (wpAny_bind (wpAny_pyIter_enum (i:=1) (old:=.none) e2 ?_)))
 refine wpAny_pure ⟨plainId_quiet PySem.F.n9 _,?_⟩
 have hd1:h1.get? s.heap.objs.size=some { cls:=.type "dict",data:=.dict #[] }:=kp1 _ _ (Heap.get?_push_size _ rfl)
 have kp2:∀ b o,s.heap.get? b=some o→h1.get? b=some o:=fun b o q=>kp1 _ _ (Heap.get?_push_of_some _ q)
 have llt:l < s.heap.objs.size:=let ⟨o,ho,_⟩:=hl; Heap.lt_size ho
 have ilt:it < s.heap.objs.size:=let ⟨o,ho,_⟩:=hit; Heap.lt_size ho
 refine b6d (knd:=knd) s.heap.objs.size e it l items ps (by exact hh) (Nat.ne_of_lt llt) hil hel (Nat.ne_of_gt ilt) (Nat.ne_of_gt elt) hei (s.heap.objs.size + 1) (Nat.lt_succ_self _) .none hlen hps _ ps.length 0 [] _ rfl (Nat.zero_le _) (Heap.lt_size hd1) ?_ ⟨⟨_,_,_,e2,.inl rfl⟩⟩ ?_ ?_ (by simpa using hsz) fun h' tk hd' kp'=>⟨rfl,?_⟩
 ·refine D0 (hnew) fun o es ep ho rest=>?_
  exact ⟨o,es,ep,kp1 _ _ ho,rest⟩
 ·refine c6 (hit) fun o ho rest=>?_
  exact ⟨o,kp2 _ _ ho,rest⟩
 ·refine c6 (hl) fun o ho rest=>?_
  exact ⟨o,kp2 _ _ ho,rest⟩
 ·exact h h' tk (by simpa using hd') fun b o z1 z2 q=>kp' b o (Nat.ne_of_lt (Heap.lt_size q)) z2 z1 (kp2 b o q)
end
section
variable {M:Model}{A:Around}{E:Value→Shared→Prop}{s:Shared}{env:Env}
theorem a78 {pos:Pos}{T:String}{e:Expr}{kws:List Keyword}{Q:Value→Shared→Prop}
  (h:wpAny M A (spliced (backTo pos (starEach [e] env))) (fun vs s₁=>wpAny M A (evalAll ((backToKw pos (keywordEach kws env)).map (·.2))) (fun kvs s₂=>wpAny M A (call (.type T) vs (((backToKw pos (keywordEach kws env)).filterMap (·.1)).zip kvs)) Q E s₂) E s₁) E s)
  (he:autoParam (backTo pos (starEach [e] env)=(false,eval e env)::backTo pos (starEach [] env)) m6._auto_1)
  (hplain:autoParam ((backTo pos (starEach [e] env)).any (·.1)=false) m6._auto_1) (hall:autoParam ((backToKw pos (keywordEach kws env)).all (·.1.isSome)=true) m6._auto_1) (hkw:autoParam ((backToKw pos (keywordEach kws env)).any (·.1.isNone)=false) m6._auto_1):
  wpAny M A (callWith pos (.type T) [] (backTo pos (starEach [e] env)) (backToKw pos (keywordEach kws env))) Q E s:=by
 have h':wpAny M A (evalArgs (.type T) true (backTo pos (starEach [e] env)) (backToKw pos (keywordEach kws env))) (fun a s₁=>wpAny M A (call (.type T) ([]++a.pos) a.kw) Q E s₁) E s:=by
  rw [he] at h ⊢
  exact evalArgs_kwB hall h
 unfold callWith
 refine wpAny_bind (wpAny_holding (wpAny_mono h' (fun a s1 h1=>wpAny_bind (wpAny_standAt ?_)) fun _ _ x=>x))
 simp only [hplain,hkw,Bool.or_false]
 exact wpAny_bind (wpAny_pure (wpAny_bind (wpAny_mono h1 (fun r s2 hr=>wpAny_bind (wpAny_holding (wpAny_point (wpAny_pure hr)))) fun _ _ x=>x)))
end
noncomputable def b0G (k:Int):List V→List (Key×V)
 | []=>[]
 | x::xs=>(.inl k,x)::b0G (k + 1) xs
noncomputable def a48 (k:Int):List Value→List (Key×Value)
 | []=>[]
 | x::xs=>(.inl k,x)::a48 (k + 1) xs
theorem a8c:∀ {xs:List V} {us:List Value} (k:Int),Vals xs us→KV (b0G k xs) (a48 k us)
 | _,_,_,.nil=>.nil
 | _,_,k,.cons r rs=>.cons ⟨rfl,r⟩ (a8c (k + 1) rs)
theorem a2c:∀ (us:List Value) (k:Int),(a48 k us).length=us.length
 | [],_=>rfl
 | u::us,k=>by
  show (a48 (k + 1) us).length + 1=_
  rw [a2c us,List.length_cons]
theorem a9m:∀ (us:List Value) (k:Int) (j:Nat) (p:Key×Value),(a48 k us)[j]?=some p→us[j]?=some p.2∧p.1=.inl (k + j)
 | u::us,k,0,p,h=>by
  have:(Sum.inl k,u)=p:=by simpa [a48] using h
  subst this
  exact ⟨rfl,by simp⟩
 | u::us,k,j + 1,p,h=>by
  refine f9 (a9m us (k + 1) j p (by simpa [a48] using h)) fun a b=>?_
  refine ⟨by simpa using a,?_⟩
  rw [b]
  congr 1
  push_cast
  omega
 | [],_,_,_,h=>by simp [a48] at h
section
variable {X:Cx}{p pos p2 pos2 kp cp:Pos}{nn:Nat}{e:Expr}{t:TA}
noncomputable def b8c (K:PySem.W.Frag):List V→Hp→VK→Prop:=fun xs H Q=>∃ l ys,xs=[.ref l]∧L5 K H l ys∧ys.length≤1000000∧∀ d,H d=none→Q (.ref d) (upd H d (.dK (a2A [] (b0G 1 ys))))
theorem a7K {K:PySem.W.Frag}(hK:X.K=K)(hc:X.calm=true)(hg1:Gl X "dict") (hm1:X.mg "dict"=none) (hg2:Gl X "enumerate") (hm2:X.mg "enumerate"=none) (ha:PA X [e] t)
  (he1:starEach [Expr.Call (.Name "enumerate" p2) [e] [⟨some "start",.Constant (.int 1) nn cp,kp⟩] pos2] X.env=(false,eval (Expr.Call (.Name "enumerate" p2) [e] [⟨some "start",.Constant (.int 1) nn cp,kp⟩] pos2) X.env)::starEach [] X.env) (hpl1:(backTo pos (starEach [] X.env)).any (·.1)=false)
  (h1:backTo pos2 (starEach [e] X.env)=(false,eval e X.env)::backTo pos2 (starEach [] X.env)) (h2:(backTo pos2 (starEach [e] X.env)).any (·.1)=false) (h3:(backToKw pos2 (keywordEach [⟨some "start",.Constant (.int 1) nn cp,kp⟩] X.env)).all (·.1.isSome)=true) (h4:(backToKw pos2 (keywordEach [⟨some "start",.Constant (.int 1) nn cp,kp⟩] X.env)).any (·.1.isNone)=false)
  (hks:(backToKw pos2 (keywordEach [⟨some "start",.Constant (.int 1) nn cp,kp⟩] X.env)).filterMap (·.1)=[("start":Str)])
  (hcst:∀ (s:Shared) (Q:Value→Shared→Prop),(∀ tk tk',Q (.int 1 tk) { s with toks:=tk' })→wpAny (model X.prog X.w) X.A (eval (.Constant (.int 1) nn cp) X.env) Q X.xe s):
  PE X (.Call (.Name "dict" p) [.Call (.Name "enumerate" p2) [e] [⟨some "start",.Constant (.int 1) nn cp,kp⟩] pos2] [] pos) (tCB (b8c K) t):=by
 subst hK
 intro pins s σ H Q I h
 refine wpAny_Call_Name_kw (V3 I hg1 hm1 PyProof.Rows.boot_dict ?_ (by decide) (by decide))
 refine PyProof.Rows.callWith_type1 ?_ he1 hpl1
 rw [he1]
 show wpAny _ _ (spliced ((false,eval (Expr.Call (.Name "enumerate" p2) [e] [⟨some "start",.Constant (.int 1) nn cp,kp⟩] pos2) X.env)::backTo pos (starEach [] X.env))) _ _ s
 refine Calls.spliced_cons (wpAny_Call_Name_kw (V3 I hg2 hm2 (u:=.type "enumerate") (by decide +kernel) ?_ (by decide) (by decide)))
 refine a78 (E6 (ha pos2 pins s σ H _ I h) fun us s1 Z9=>i9 Z9 fun vs H1 I1 r1 Z9=>R8 Z9 fun l ys ev hq hz q=>?_) h1 h2 h3 h4
 subst ev
 refine c6 (vals1 r1) fun u Z1 ru=>?_; subst Z1
 cases ru
 refine kws_cons (hcst s1 _ fun tk tk'=>kws_nil ?_)
 rw [hks]
 have I1':Inv X pins σ H1 { s1 with toks:=tk' }:=I1.tok _
 refine j7 (I1'.list hq) fun its rv pl hsl=>?_
 refine b3y (t:=tk) pl.isList fun h' hE hit kp=>Calls.spliced_nil ?_
 have hlt:l < s1.heap.objs.size:=let ⟨o,ho,_⟩:=pl.isList; Heap.lt_size ho
 have I2:Inv X pins σ H1 { s1 with heap:=h',toks:=tk' }:=I1'.kept (t':=tk') kp
 have hl2:h'.IsList l its.toArray:=let ⟨o,ho,r⟩:=pl.isList; ⟨o,kp _ _ ho,r⟩
 have hn:=rv.length
 have hml:(a2A [] (b0G 1 ys)).length≤sizeLine:=by
  have e1:=(a2G (a8c 1 rv) (kvs:=[]) (vs:=[]) .nil).length
  have e2:=merged_length_le ([]:List (Key×Value)) (a48 1 its)
  rw [a2c] at e2
  simp at e2
  have:=sizeLine_eq
  omega
 refine a6f (knd:=x8 X.prog X.w) (a48 1 its) (I1.ok.hd hc) hE hit hl2 (Nat.ne_of_lt hlt) (Nat.ne_of_lt (Nat.lt_succ_of_lt hlt)) (Nat.ne_of_gt (Nat.lt_succ_self _)) (by rw [a2c,List.size_toArray]) (by rw [a2c,sizeLine_eq]; omega) (fun j pr hj=>?_) fun h2' tk2 hd' kp2=>?_
 ·refine f9 (a9m its 1 j pr hj) fun a b=>?_
  refine ⟨by simpa using a,fun tk=>?_⟩
  rw [b,Int.add_comm]
  exact a3c (k:=.inl ((j:Int) + 1)) ⟨tk,rfl⟩
 ·have kp3:∀ b o,s1.heap.get? b=some o→h2'.get? b=some o:=fun b o q=>kp2 b o (Nat.ne_of_lt (Nat.lt_succ_of_lt (Heap.lt_size q))) (Nat.ne_of_lt (Heap.lt_size q)) (kp b o q)
  have hsz:s1.heap.objs.size≤h'.objs.size:=Nat.le_of_lt (let ⟨o,ho,_⟩:=hit; Heap.lt_size ho)
  exact ⟨.ref h'.objs.size,_,I1'.laid (a:=h'.objs.size) (o:=.dK (a2A [] (b0G 1 ys))) (t':=tk2) kp3 hsz (a6O hml (beq_eq_false_iff_ne.mpr (Ne.symm (Nat.ne_of_lt (Nat.lt_of_lt_of_le I1.big hsz)))) (a2G (a8c 1 rv) .nil) hd'),rfl,q _ (I1'.hok.fresh hsz)⟩
end
end L3
set_option Elab.async false
set_option linter.all false
set_option maxRecDepth 100000
set_option maxHeartbeats 4000000
namespace L3
open PySem PySem.Spec PyProof.Rows L2
noncomputable def b0F (k:Int):List D→List (Key×D)
 | []=>[]
 | d::ds=>(.inl k,d)::b0F (k + 1) ds
noncomputable def a9v:List D→Option W
 | [.lst ds]=>grd (ds.length≤1000000) (some (.own (.dct (a1o [] (b0F 1 ds)))))
 | _=>none
theorem num_rep {K:PySem.W.Frag}{G:Hp}:∀ {ys:List V} {ds:List D} (k:Int),t6 K G ys ds→n5 K G (b0G k ys) (b0F k ds)
 | [],[],_,_=>n5.nil
 | [],_::_,_,r=>by have:=r.len; simp at this
 | _::_,[],_,r=>by have:=r.len; simp at this
 | y::ys,d::ds,k,r=>n5.cons rfl r.head (num_rep (k + 1) r.tail)
section
variable {X:Cx}{B:Bs}{e:Expr}{mr:M (List W)}{nn:Nat}{p pos p2 pos2 kp cp:Pos}
theorem b0t:a13 B (b8c B.K) a9v:=by
 intro G H σ ρ xs ds w Q R h ev pp
 match ds,ev with
 | [.lst ds],ev=>
  refine f9 (z7 ev) fun hz ev=>?_
  cases ev
  refine c6 (F0 h) fun x Z1 hx=>?_; subst Z1
  refine i9 (hx.lst R.gH) fun q ys Z1 h1 r1=>?_; subst Z1
  refine ⟨q,ys,rfl,h1,by rw [r1.len]; exact hz,fun l hl=>?_⟩
  refine f9 (R.a8X hl (a6l (num_rep 1 r1) n5.nil)) fun R' w'=>?_
  exact pp _ G _ (i6.refl _) R' w'
theorem a8W (hc:X.calm=true)(hm1:X.mg "dict"=none) (hm2:X.mg "enumerate"=none) (ha:PDA X B [e] mr) (hg1:autoParam (Gl X "dict") m6._auto_1) (hg2:autoParam (Gl X "enumerate") m6._auto_1) (hK:autoParam (X.K=B.K) m6._auto_1)
  (he1:autoParam (starEach [Expr.Call (.Name "enumerate" p2) [e] [⟨some "start",.Constant (.int 1) nn cp,kp⟩] pos2] X.env=(false,eval (Expr.Call (.Name "enumerate" p2) [e] [⟨some "start",.Constant (.int 1) nn cp,kp⟩] pos2) X.env)::starEach [] X.env) m6._auto_1) (hpl1:autoParam ((backTo pos (starEach [] X.env)).any (·.1)=false) m6._auto_1)
  (h1:autoParam (backTo pos2 (starEach [e] X.env)=(false,eval e X.env)::backTo pos2 (starEach [] X.env)) m6._auto_1) (h2:autoParam ((backTo pos2 (starEach [e] X.env)).any (·.1)=false) m6._auto_1) (h3:autoParam ((backToKw pos2 (keywordEach [⟨some "start",.Constant (.int 1) nn cp,kp⟩] X.env)).all (·.1.isSome)=true) m6._auto_1) (h4:autoParam ((backToKw pos2 (keywordEach [⟨some "start",.Constant (.int 1) nn cp,kp⟩] X.env)).any (·.1.isNone)=false) m6._auto_1)
  (hks:autoParam ((backToKw pos2 (keywordEach [⟨some "start",.Constant (.int 1) nn cp,kp⟩] X.env)).filterMap (·.1)=[("start":Str)]) m6._auto_1):
  PD X B (.Call (.Name "dict" p) [.Call (.Name "enumerate" p2) [e] [⟨some "start",.Constant (.int 1) nn cp,kp⟩] pos2] [] pos) (E3 a9v mr):=.mk fun ξ=>
 (a7K (X:=rz X ξ) (K:=B.K) hK hc hg1 hm1 hg2 hm2 (ha.ap ξ) he1 hpl1 h1 h2 h3 h4 hks (fun s Q h=>wpAny_Constant_int (h _ _))).imp fun _ _ _ t=>a7T b0t t
end
noncomputable def Itv (K:PySem.W.Frag)(a:Addr)(n:Nat):It:=
 ⟨fun i H=>i < n∧∃ xs,L5 K H a xs∧xs.length=n,fun i H x H'=>H'=H∧∀ xs,L5 K H a xs→xs[n - 1 - i]?=some x,fun i H=>n≤i∧∃ xs,L5 K H a xs∧xs.length=n⟩
theorem b1x {P:Program}{w:World}{K:PySem.W.Frag}{tg:Expr}(a it:Addr)(n:Nat):Turn P w K tg (Itv K a n) [it] it (fun i h=>i≤n∧h.IsRevIter it a ((n:Int) - 1 - (i:Int))) where
 mem:=by simp
 obj:=fun i h st b hb=>by
  have e:b=it:=by simpa using hb
  subst e
  refine f9 (st) fun _ Z9=>j7 Z9 fun o e c d=>?_
  exact ⟨o,e,fun v z=>by rw [d] at z; cases z⟩
 keep:=fun i h h' st k=>⟨st.1,st.2.at fun o e=>k it (by simp) o e⟩
 item:=by
  intro X hP hw hK hc i pins s σ H E I hf st hg
  subst hP hw hK
  refine f9 (hg) fun hlt Z9=>c6 Z9 fun xs hq hn=>?_
  refine j7 (I.list hq) fun its rv p hz=>?_
  have hl:=rv.length
  obtain ⟨x,hx⟩:∃ x,xs[n - 1 - i]?=some x:=⟨_,List.getElem?_eq_getElem (by omega)⟩
  refine c6 (rv.get hx) fun u hu ru=>?_
  refine P0 (hf it (by simp)) fun f0 f1 f2 f3 f4 f5=>?_
  have e1:(n:Int) - 1 - (i:Int)=((n - 1 - i:Nat):Int):=by omega
  have st2:=st.2
  rw [e1] at st2
  refine wpAny_pyNext_rev_item st2 p.isList (x:=u) (by simpa using hu) fun h' st' sb=>?_
  have e2:((n - 1 - i:Nat):Int) - 1=(n:Int) - 1 - ((i + 1:Nat):Int):=by omega
  rw [e2] at st'
  have I1:Inv X pins σ H { s with heap:=h' }:=I.turned (t':=s.toks) (fun b o hb e=>(sb.2 b hb).trans e) f0 f1 f3 f4 f5
  refine j7 (id st') fun o e c d=>?_
  exact ⟨u,rfl,a35 (s:={ s with heap:=h' }) e c d (by decide) ⟨x,H,I1,ru,⟨rfl,fun ys hy=>by rw [I.a1W hy hq]; exact hx⟩,⟨hlt,st'⟩,fun b hb=>(hf b hb).1⟩⟩
 done:=by
  intro X hP hw hK hc i pins s σ H E I hf st hg
  subst hP hw hK
  refine f9 (hg) fun hle Z9=>c6 Z9 fun xs hq hn=>?_
  refine P0 (hf it (by simp)) fun f0 f1 f2 f3 f4 f5=>?_
  have st2:=st.2
  rw [show (n:Int) - 1 - (i:Int)=-1 by have:=st.1; omega] at st2
  exact wpAny_pyNext_rev_end (I.ok.hd hc) st2 fun h' he'=>⟨rfl,I.turned (t':=s.toks) (fun b o hb e=>he' b o hb e) f0 f1 f3 f4 f5⟩
 self:=fun _ _ _ _ _ st h=>wpAny_pyIter_revIter st.2 h
section
variable {X:Cx}{tg e:Expr}{t:TA}{p pos:Pos}
theorem b6I {K:PySem.W.Frag}(hK:X.K=K)(hg:Gl X "reversed") (hm:X.mg "reversed"=none) (ha:PA X [e] t) (he:starEach [e] X.env=(false,eval e X.env)::starEach [] X.env) (hpl:(backTo pos (starEach [] X.env)).any (·.1)=false):
  PI X tg (.Call (.Name "reversed" p) [e] [] pos) (fun σ H R=>t σ H fun vs H1=>∃ a xs,vs=[.ref a]∧L5 K H1 a xs∧R (Itv K a xs.length) H1):=by
 subst hK
 intro pins s σ H R I h
 refine wpAny_Call_Name_kw (V3 I hg hm (u:=.type "reversed") (by decide +kernel) ?_ (by decide) (by decide))
 refine PyProof.Rows.callWith_type1 (E6 (ha pos pins s σ H _ I h) fun us s1 Z9=>i9 Z9 fun vs H1 I1 r1 Z9=>i9 Z9 fun a xs ev hq q=>?_) he hpl
 subst ev
 refine c6 (vals1 r1) fun u Z1 ru=>?_; subst Z1
 cases ru
 refine j7 (I1.list hq) fun its rv pl hz=>?_
 have hl:=rv.length
 refine call_reversed_list pl.isList ?_
 have hit:(s1.heap.push (revObj a ((its.toArray.size:Int) - 1))).IsRevIter s1.heap.objs.size a ((xs.length:Int) - 1 - ((0:Nat):Int)):=by
  rw [show (xs.length:Int) - 1 - ((0:Nat):Int)=(its.toArray.size:Int) - 1 by rw [List.size_toArray,hl]; omega]
  exact ⟨_,Heap.get?_push_size _ rfl,rfl,rfl⟩
 refine wpAny_pyIter_revIter hit ?_
 refine ⟨s1.heap.objs.size,[s1.heap.objs.size],_,_,H1,rfl,I1.kept (t':=s1.toks) fun b o e=>Heap.get?_push_of_some _ e,b1x a _ xs.length,⟨Nat.zero_le _,hit⟩,fun b hb=>?_,q⟩
 have e:b=s1.heap.objs.size:=by simpa using hb
 subst e
 exact I1.b2W (Nat.le_refl _) (I1.hok.fresh (Nat.le_refl _))
end
noncomputable def b1p (m:M (List W)):M (List D):=M.bind m fun ws=>match ws with
 | [w]=>M.bind (D3 w) fun d=>fun ρ=>match d with
  | .lst ds=>some (.ok ds.reverse ρ)
  | _=>none
 | _=>fun _=>none
theorem b0c {K:PySem.W.Frag}{G:Hp}{a:Addr}{xs:List V}{ds:List D}(h:L5 K G a xs)(r:t6 K G xs ds):Gives K G (Itv K a xs.length) ds.reverse where
 go:=fun G' H i s1 s2 hi=>by
  rw [List.length_reverse,← r.len] at hi
  exact ⟨hi,xs,(s1.trans s2).seq h,rfl⟩
 stop:=fun G' H s1 s2=>⟨by rw [List.length_reverse,r.len]; exact Nat.le_refl _,xs,(s1.trans s2).seq h,rfl⟩
 yld:=fun G' H H' i x s1 s2 hi y=>by
  obtain ⟨rfl,y⟩:=y
  have ex:=y xs ((s1.trans s2).seq h)
  refine c6 (r.atV ex) fun d e2 r2=>?_
  rw [List.length_reverse] at hi
  exact ⟨rfl,d,by rw [List.getElem?_reverse hi,← r.len]; exact e2,r2.same s1⟩
section
variable {X:Cx}{B:Bs}{tg e:Expr}{mr:M (List W)}{p pos:Pos}
theorem b73 (hm:X.mg "reversed"=none) (ha:PDA X B [e] mr) (hg:autoParam (Gl X "reversed") m6._auto_1) (hK:autoParam (X.K=B.K) m6._auto_1) (he:autoParam (starEach [e] X.env=(false,eval e X.env)::starEach [] X.env) m6._auto_1) (hpl:autoParam ((backTo pos (starEach [] X.env)).any (·.1)=false) m6._auto_1):
  PDI X B tg (.Call (.Name "reversed" p) [e] [] pos) (b1p mr):=.mk fun ξ=>(b6I (X:=rz X ξ) (K:=B.K) hK hg hm (ha.ap ξ) he hpl).imp fun σ H Rr t=>by
 refine l6 (a81 t) fun G ρ R t=>?_
 refine (TD.bind (rel:=K7) R t).mono fun vs H1 Z0=>n6 (Z0) fun G1 ρ1 ws s1 R1 q1 t2=>?_
 match ws,q1,t2 with
 | [],_,⟨r,er,_⟩=>cases er
 | _::_::_,_,⟨r,er,_⟩=>cases er
 | [w],q1,t2=>
  cases q1 with
  | @cons v _ vs _ h t1=>
   cases t1
   obtain ⟨d,ρ2,e2,r2,er,p2⟩:=t2.step fun r h=>W3 h
   refine j7 (h.1.D3 R1 e2) fun G2 s2 R2 rp=>?_
   cases d with
   | lst ds=>
    cases er
    cases rp with
    | @lst a xs ds' hs l r=>exact ⟨a,xs,rfl,R2.gH.seq hs,p2 (Itv B.K a xs.length) G2 H1 s2 R2 (b0c hs ⟨l,r⟩)⟩
   | _=>cases er
end
theorem b6w {mr:M (List W)}{ρ ρ1 ρ2:k9}{w:W}{ds:List D}(ha:mr ρ=some (.ok [w] ρ1))(hl:D3 w ρ1=some (.ok (.lst ds) ρ2)):b1p mr ρ=some (.ok ds.reverse ρ2):=by
 unfold b1p
 rw [M.j8 ha]
 show M.bind (D3 w) _ ρ1=_
 rw [M.j8 hl]
end L3
set_option Elab.async false
set_option linter.all false
set_option maxRecDepth 100000
set_option maxHeartbeats 4000000
namespace L3
open PySem PySem.Spec PyProof.Rows L2
open AutoSeq1 (wpAny_loadPart')
theorem b4T:typeLookup (.type "list_reverseiterator") "__len__"=pure none:=by rw [typeLookup_type,builtinLookup_eq_fast]; kernel_rfl
theorem b2F:typeLookup (.type "list_reverseiterator") "__length_hint__"=pure (some (.builtin "list_reverseiterator.__length_hint__")):=by rw [typeLookup_type,builtinLookup_eq_fast]; kernel_rfl
theorem b4Z:isSubtype (.type "list_reverseiterator") (.type "list_reverseiterator")=pure true:=by rw [isSubtype_type]; kernel_rfl
section
variable {prog:Program}{w:World}{A:Around}{E:Value→Shared→Prop}{s:Shared}{it l:Addr}{items:Array Value}
theorem b4m {Q:List Value→Shared→Prop}(hh:A.handled=none)(hit:s.heap.IsRevIter it l ((items.size:Int) - 1))(hl:s.heap.IsList l items)(hne:l≠it)(hn:items.size≤sizeLine)
  (hQ:∀ s' acc,Moved [it] (fun a b=>b=a) s s'→ItemsOf (fun i v=>items[items.size - 1 - i]?=some v) acc items.size→Q acc.toList s'):wpAny (model prog w) A (collect (.ref it)) Q E s:=by
 have W:=(Walks.listRev (prog:=prog) (w:=w) (A:=A.in1) hh it l hne items).toS
 have ilt:it < s.heap.objs.size:=let ⟨o,ho,_⟩:=hit; Heap.lt_size ho
 have llt:l < s.heap.objs.size:=let ⟨o,ho,_⟩:=hl; Heap.lt_size ho
 have hSf:s.heap.objs.size∉[it,l]:=by
  intro z
  simp only [List.mem_cons,List.not_mem_nil,or_false] at z
  refine Or.elim (z) (fun z=>?_) fun z=>?_
  ·exact Nat.ne_of_gt ilt z
  ·exact Nat.ne_of_gt llt z
 have e0:(items.size:Int) - 1 - ((0:Nat):Int)=(items.size:Int) - 1:=by omega
 unfold collect
 refine wpAny_bind (wpAny_runValue (codeAny_builtin F.entry_proto_collect (by
  rw [Around.under_plainId F.plain_proto_collect _]
  show wpAny _ A.in1 (newList [] >>= fun l=>again (.builtin "list.__iadd__" ⟨[l,.ref it],[]⟩)) _ _ s
  refine wpAny_bind (wpAny_newObj_type (wpAny_pure ⟨plainId_quiet F.plain_list_iadd _,codeAny_builtin F.entry_list_iadd ?_⟩))
  rw [Around.under_plainId F.plain_list_iadd _]
  have S1:(s.heap.push { cls:=.type "list",data:=.seq ([]:List Value).toArray }).get? s.heap.objs.size=some { cls:=.type "list",data:=.seq ([]:List Value).toArray }:=Heap.get?_push_size _ rfl
  have hit1:(s.heap.push { cls:=.type "list",data:=.seq ([]:List Value).toArray }).IsRevIter it l ((items.size:Int) - 1 - ((0:Nat):Int)):=by rw [e0]; exact hit.at fun o q=>Heap.get?_push_of_some _ q
  have hl1:(s.heap.push { cls:=.type "list",data:=.seq ([]:List Value).toArray }).IsList l items:=hl.at fun o q=>Heap.get?_push_of_some _ q
  have hT:({ s with heap:=s.heap.push { cls:=.type "list",data:=.seq ([]:List Value).toArray } }:Shared).TypeIs (.ref it) "list_reverseiterator":=let ⟨o,ho,hc,_⟩:=hit1; ⟨o,ho,hc⟩
  have n1:Builtin.List.listSameRef (.ref s.heap.objs.size) (.ref it)=false:=by simp [Builtin.List.listSameRef,Nat.ne_of_gt ilt]
  show wpAny _ A.in1 (Builtin.List.listExtendWith (.ref s.heap.objs.size) (.ref it) (.ref s.heap.objs.size)) _ _ _
  unfold Builtin.List.listExtendWith
  refine wpAny_bind (wpAny_typeOf hT ?_)
  rw [if_neg (by rw [n1]; decide)]
  refine wpAny_bind (wpAny_pyIter_revIter hit1 (wpAny_bind (wpAny_holding ?_)))
  unfold Builtin.List.listLengthHint
  refine wpAny_bind (wpAny_specialOf hT b4T ?_)
  show wpAny _ A.in1 (specialOf (Value.ref it) (Str.ofString "__length_hint__") >>= fun _=>_) _ _ _
  refine wpAny_bind (wpAny_specialOf hT b2F ?_)
  generalize hid:("list_reverseiterator.__length_hint__":String)=id0
  wp_delta
  rw [show splitId id0=some ("list_reverseiterator","__length_hint__") from by subst hid; decide +kernel]
  subst hid
  refine wpAny_bind (wpAny_isInstance (b:=true) hT b4Z (wpAny_pure ?_))
  rw [if_neg (by decide)]
  refine wpAny_pure ⟨plainId_quiet F.plain_extend_loop _,codeAny_extend_loopS W hn _ hSf _ items.size 0 _ _ _ rfl (Nat.zero_le _) ⟨Nat.zero_le _,hit1,hl1⟩ S1 (ItemsOf.nil _) fun s' acc' c' hm hS' hacc=>?_⟩
  show wpAny _ A (load s.heap.objs.size >>= fun _=>_) _ _ s'
  exact wpAny_bind (wpAny_load hS' (wpAny_pure (hQ s' acc' (Moved.drop_new (o:={ cls:=.type "list",data:=.seq ([]:List Value).toArray }) (tk:=s.toks) hm (Nat.le_refl _)) hacc))))))
theorem a6r {Q:Value→Shared→Prop}(hh:A.handled=none)(hit:s.heap.IsRevIter it l ((items.size:Int) - 1))(hl:s.heap.IsList l items)(hne:l≠it)(hn:items.size≤sizeLine)
  (h:∀ s' acc,Moved [it] (fun a b=>b=a) s s'→ItemsOf (fun i v=>items[items.size - 1 - i]?=some v) acc items.size→Q (.ref s'.heap.objs.size) { s' with heap:=s'.heap.push { cls:=.type "tuple",data:=.seq acc } }):
  codeAny (model prog w) A (.call (.builtin "tuple.__new__") ⟨[.type "tuple",.ref it],[]⟩) (wants Q E) s:=by
 refine codeAny_of_tree (show wpAny _ A.in1 (do checkBuiltinCall "tuple.__new__" ⟨[.type "tuple",.ref it],[]⟩; again (.builtin "tuple.__new__" ⟨[.type "tuple",.ref it],[]⟩)) _ _ s from wpAny_bind (wpAny_of_eq (F.newCall_tuple_1 _) (wpAny_pure ⟨plainId_quiet F.plain_tuple_new _,codeAny_builtin F.entry_tuple_new ?_⟩)))
 rw [Around.under_plainId F.plain_tuple_new _]
 have s1:=sub_tuple_self
 have s2:=init_tuple_lookup
 have s3:=madeHere_tuple
 have hT:s.TypeIs (.ref it) "list_reverseiterator":=hit.typeIs
 have hh1:A.in1.handled=none:=hh
 wp_walk using wpAny_typeOf hT,b4m (A:=A.in1) hh1 hit hl hne hn
 intro s' acc hm hacc
 show wpAny _ _ (Builtin.Tuple.tupleExact acc.toList.toArray >>= fun v=>ret v) _ _ _
 unfold Builtin.Tuple.tupleExact
 have e:acc.toList.toArray=acc:=by simp
 rw [e]
 exact wpAny_bind (wpAny_newObj_type (wpAny_pure (h s' acc hm hacc)) (by show acc.size≤sizeLine; rw [hacc.1]; exact hn))
theorem a6L {Q:Value→Shared→Prop}(hh:A.handled=none)(hit:s.heap.IsRevIter it l ((items.size:Int) - 1))(hl:s.heap.IsList l items)(hne:l≠it)(hn:items.size≤sizeLine)
  (h:∀ s' acc,Moved [it] (fun a b=>b=a) s s'→ItemsOf (fun i v=>items[items.size - 1 - i]?=some v) acc items.size→Q (.ref s'.heap.objs.size) { s' with heap:=s'.heap.push { cls:=.type "tuple",data:=.seq acc } }):
  wpAny (model prog w) A (call (.type "tuple") [.ref it]) Q E s:=by
 refine callType_codes (Q₁:=fun obj s₁=>s₁.TypeIs obj "tuple"∧Q obj s₁) F.called_tuple (F.typeCall_tuple_1 _) F.entry_object_init (a6r (A:=A.in1) hh hit hl hne hn fun s' acc hm hacc=>⟨⟨_,Heap.get?_push_size _ rfl,rfl⟩,h s' acc hm hacc⟩) fun obj s₁ h₁=>?_
 exact ⟨h₁.1,F.args_object_init_2 obj _,object_init_meets F.called_tuple.init.lookup F.called_tuple.made (by decide) prog w A.in1 _ s₁ ⟨h₁.1,rfl,h₁.2⟩⟩
end
theorem b1s {xs:List V}{its:List Value}{acc:Array Value}(rv:Vals xs its)(h:ItemsOf (fun i v=>its.toArray[its.toArray.size - 1 - i]?=some v) acc its.toArray.size):acc.toList=its.reverse:=by
 apply List.ext_getElem?
 intro j
 have hs:acc.size=its.length:=by rw [h.1,List.size_toArray]
 by_cases hj:j < its.length
 ·have ha:acc[j]?=some (acc[j]'(by omega)):=Array.getElem?_eq_getElem (by omega)
  have q:=h.2 j _ ha
  rw [List.size_toArray] at q
  rw [Array.getElem?_toList,ha,List.getElem?_reverse hj]
  rw [List.getElem?_toArray] at q
  exact q.symm
 ·rw [List.getElem?_eq_none (by rw [Array.length_toList]; omega),List.getElem?_eq_none (by rw [List.length_reverse]; omega)]
theorem a7A:∀ {xs:List V} {us:List Value},Vals xs us→Vals xs.reverse us.reverse
 | _,_,.nil=>.nil
 | _,_,.cons r rs=>by
  rw [List.reverse_cons,List.reverse_cons]
  exact (a7A rs).append (.cons r .nil)
section
variable {X:Cx}{e:Expr}{t:TA}{p pos p2 pos2:Pos}
noncomputable def trR (K:PySem.W.Frag):List V→Hp→VK→Prop:=fun vs H Q=>∃ a xs,vs=[.ref a]∧L5 K H a xs∧∀ l,H l=none→Q (.ref l) (upd H l (.tup xs.reverse))
theorem b08 {K:PySem.W.Frag}(hK:X.K=K)(hc:X.calm=true)(hg1:Gl X "tuple") (hm1:X.mg "tuple"=none) (hg2:Gl X "reversed") (hm2:X.mg "reversed"=none) (ha:PA X [e] t)
  (he1:starEach [Expr.Call (.Name "reversed" p2) [e] [] pos2] X.env=(false,eval (Expr.Call (.Name "reversed" p2) [e] [] pos2) X.env)::starEach [] X.env) (hpl1:(backTo pos (starEach [] X.env)).any (·.1)=false)
  (he2:starEach [e] X.env=(false,eval e X.env)::starEach [] X.env) (hpl2:(backTo pos2 (starEach [] X.env)).any (·.1)=false):
  PE X (.Call (.Name "tuple" p) [.Call (.Name "reversed" p2) [e] [] pos2] [] pos) (tCB (trR K) t):=by
 subst hK
 intro pins s σ H Q I h
 refine wpAny_Call_Name_kw (V3 I hg1 hm1 PyProof.Rows.boot_tuple ?_ (by decide) (by decide))
 refine PyProof.Rows.callWith_type1 ?_ he1 hpl1
 rw [he1]
 show wpAny _ _ (spliced ((false,eval (Expr.Call (.Name "reversed" p2) [e] [] pos2) X.env)::backTo pos (starEach [] X.env))) _ _ s
 refine Calls.spliced_cons (wpAny_Call_Name_kw (V3 I hg2 hm2 (u:=.type "reversed") (by decide +kernel) ?_ (by decide) (by decide)))
 refine PyProof.Rows.callWith_type1 (E6 (ha pos2 pins s σ H _ I h) fun us s1 Z9=>i9 Z9 fun vs H1 I1 r1 Z9=>i9 Z9 fun a xs ev hq q=>?_) he2 hpl2
 subst ev
 refine c6 (vals1 r1) fun u Z1 ru=>?_; subst Z1
 cases ru
 refine j7 (I1.list hq) fun its rv pl hz=>?_
 have hl:=rv.length
 have hlt:a < s1.heap.objs.size:=let ⟨o,ho,_⟩:=pl.isList; Heap.lt_size ho
 refine call_reversed_list pl.isList (Calls.spliced_nil ?_)
 have hit:(s1.heap.push (revObj a ((its.toArray.size:Int) - 1))).IsRevIter s1.heap.objs.size a ((its.toArray.size:Int) - 1):=⟨_,Heap.get?_push_size _ rfl,rfl,rfl⟩
 have hl2:(s1.heap.push (revObj a ((its.toArray.size:Int) - 1))).IsList a its.toArray:=let ⟨o,ho,r⟩:=pl.isList; ⟨o,Heap.get?_push_of_some _ ho,r⟩
 refine a6L (I1.ok.hd hc) hit hl2 (Nat.ne_of_lt hlt) (by rw [List.size_toArray]; omega) fun s' acc hm hacc=>?_
 obtain ⟨h',g',d',tk',os'⟩:=s'
 have e1:g'=s1.gens:=hm.gens
 have e2:d'=s1.drawn:=hm.drawn
 have e3:os'=s1.os:=hm.os
 subst e1 e2 e3
 have kp:∀ b o,s1.heap.get? b=some o→h'.get? b=some o:=fun b o z=>hm.heap b o (fun m=>Nat.ne_of_lt (Heap.lt_size z) (List.mem_singleton.mp m)) (Heap.get?_push_of_some _ z)
 have I2:Inv X pins σ H1 { s1 with heap:=h',toks:=tk' }:=I1.kept kp
 have ea:=b1s rv hacc
 have eo:(Data.seq acc:Data)=.seq (its.reverse).toArray:=by rw [← ea]
 have I3:Inv X pins σ (upd H1 h'.objs.size (.tup xs.reverse)) { s1 with heap:=h'.push { cls:=.type "tuple",data:=.seq acc },toks:=tk' }:=by
  rw [eo]
  exact I2.laid (t':=tk') (fun b o e=>Heap.get?_push_of_some _ e) (Nat.le_refl _) (show D8 X.prog X.w _ _ _ (.tup xs.reverse) from ⟨by rw [List.length_reverse]; exact hz,its.reverse,a7A rv,IsTup.new _ _⟩)
 exact ⟨.ref h'.objs.size,_,I3,rfl,q _ (I2.hok.fresh (Nat.le_refl _))⟩
end
theorem a7D {K:PySem.W.Frag}{G:Hp}:∀ {xs:List V} {ds:List D},t6 K G xs ds→t6 K G xs.reverse ds.reverse
 | [],[],_=>t6.nil
 | [],_::_,r=>by have:=r.len; simp at this
 | _::_,[],r=>by have:=r.len; simp at this
 | x::xs,d::ds,r=>by
  rw [List.reverse_cons,List.reverse_cons]
  exact (a7D r.tail).append (t6.one r.head)
noncomputable def a3Y:List D→Option W
 | [.lst ds]=>some (.val (.tup ds.reverse))
 | _=>none
section
variable {X:Cx}{B:Bs}{e:Expr}{mr:M (List W)}{p pos p2 pos2:Pos}
theorem a7B:a13 B (trR B.K) a3Y:=by
 intro G H σ ρ xs ds w Q R h ev pp
 match ds,ev with
 | [.lst ds],ev=>
  cases ev
  refine c6 (F0 h) fun x Z1 hx=>?_; subst Z1
  refine i9 (hx.lst R.gH) fun q ys Z1 h1 r1=>?_; subst Z1
  refine ⟨q,ys,rfl,h1,fun l hl=>?_⟩
  refine j7 (R.a8Q hl (a7D r1)) fun G' s' R' w'=>?_
  exact pp _ G' _ s' R' w'
theorem b21 (hc:X.calm=true)(hm1:X.mg "tuple"=none) (hm2:X.mg "reversed"=none) (ha:PDA X B [e] mr) (hg1:autoParam (Gl X "tuple") m6._auto_1) (hg2:autoParam (Gl X "reversed") m6._auto_1) (hK:autoParam (X.K=B.K) m6._auto_1)
  (he1:autoParam (starEach [Expr.Call (.Name "reversed" p2) [e] [] pos2] X.env=(false,eval (Expr.Call (.Name "reversed" p2) [e] [] pos2) X.env)::starEach [] X.env) m6._auto_1) (hpl1:autoParam ((backTo pos (starEach [] X.env)).any (·.1)=false) m6._auto_1)
  (he2:autoParam (starEach [e] X.env=(false,eval e X.env)::starEach [] X.env) m6._auto_1) (hpl2:autoParam ((backTo pos2 (starEach [] X.env)).any (·.1)=false) m6._auto_1):
  PD X B (.Call (.Name "tuple" p) [.Call (.Name "reversed" p2) [e] [] pos2] [] pos) (E3 a3Y mr):=.mk fun ξ=>
 (b08 (X:=rz X ξ) (K:=B.K) hK hc hg1 hm1 hg2 hm2 (ha.ap ξ) he1 hpl1 he2 hpl2).imp fun _ _ _ t=>a7T a7B t
end
end L3
set_option Elab.async false
set_option linter.all false
set_option maxRecDepth 100000
set_option maxHeartbeats 4000000
namespace L3
open PySem PySem.Spec PyProof.Rows L2
noncomputable def b4t:V→List V→Hp→VK→Prop:=fun x vs H Q=>∃ a b kvs more,x=.ref a∧vs=[.ref b]∧a≠b∧H a=some (.dK kvs)∧Rd H b (.dK more)∧kvs.length + more.length≤sizeLine∧Q .w6 (upd H a (.dK (a2A kvs more)))
theorem b0J {X:Cx}:MtM X "dict.update" b4t:=by
 intro pins s σ H x vs v us Q I rx rv h
 refine b7r (h) fun a b kvs more Z1 Z2 hab hH hB hz q=>?_; subst Z1; subst Z2
 cases rx
 refine c6 (rv.one) fun u Z1 ru=>?_; subst Z1
 cases ru
 refine n8 (b5q I.hok hH) fun z hd Z9=>c6 Z9 fun vs rel dd=>?_
 refine n8 (W2 I.hok hB) fun z2 hd2 Z9=>c6 Z9 fun vs2 rel2 dd2=>?_
 have l1:=rel.length
 have l2:=rel2.length
 have hl:(a2A kvs more).length≤sizeLine:=by
  have e:=(a2G rel2 rel).length
  have e2:=merged_length_le vs vs2
  omega
 refine call_meetsIn PySem.F.slot_dict_update dd.typeIs PySem.F.entry_dict_update (PySem.F.args_dict_update_2 _ _) (meets_dict_update (x8 X.prog X.w) a b hab hd2)
  ⟨vs,vs2,dd,dd2,by omega,fun h' dd' _ hs=>?_⟩
 have he:∃ q,h'.get? a=some q:=let ⟨q,_,_,hq,_⟩:=dd'; ⟨q,hq⟩
 exact ⟨.w6,_,a6N I (by rw [hH]; exact True.intro) hs he (a6O hl hd (a2G rel2 rel) dd'),rfl,q⟩
noncomputable def a2d (i:Nat)(d:D):M W:=fun ρ=>match ρ[i]?,d with
 | some (some (.ow l (.dct es))),.dct ps=>grd (small (es.length + ps.length)) (some (.ok (.val .w6) (ρ.set i (some (.ow l (.dct (a1o es ps)))))))
 | _,_=>none
noncomputable def b1a (i:Nat):M Unit:=fun ρ=>match ρ[i]? with
 | some (some (.ow _ (.dct _)))=>some (.ok () ρ)
 | _=>none
theorem a9F {i:Nat}{ρ:k9}{r:R' Unit}(h:b1a i ρ=some r):r=.ok () ρ∧∃ l es,ρ[i]?=some (some (.ow l (.dct es))):=by
 unfold b1a at h
 split at h
 ·rename_i l es e
  cases h
  exact ⟨rfl,l,es,e⟩
 ·cases h
noncomputable def a3S (i:Nat)(m:M (List W)):M W:=M.bind (d8 i) fun x=>M.bind (b1a i) fun _=>M.bind m fun ws=>match ws with
 | [w]=>M.bind (D3 w) (a2d i)
 | _=>fun _=>none
section
variable {X:Cx}{B:Bs}{o e:Expr}{mr:M (List W)}{apos cpos opos:Pos}{x:Str}
theorem b2w (i:Nat)(ho:PD X B o (d8 i))(ha:PDA X B [e] mr)
  (hbase:autoParam (attributeBase o "update" X.env (eval o X.env)=eval o X.env) m6._auto_1)
  (hfew:autoParam (((backTo cpos (starEach [e] X.env)).all (fun x=>!x.1) && (backToKw cpos (keywordEach [] X.env)).all (fun x=>x.1.isSome)
   && decide (([e]:List Expr).length + ([]:List Keyword).length + (if ([]:List Keyword).isEmpty then 0 else 1) < 30))=true) m6._auto_1)
  (hline:autoParam ((apos.endLine == cpos.line)=true) m6._auto_1) (hs:autoParam (starEach [e] X.env=(false,eval e X.env)::starEach [] X.env) m6._auto_1) (hplain:autoParam ((backTo cpos (starEach [] X.env)).any (·.1)=false) m6._auto_1) (hK:autoParam (X.K=B.K) m6._auto_1):
  PD X B (.Call (.Attribute o "update" apos) [e] [] cpos) (a3S i mr):=.mk fun ξ=>
 (b3t (X:=rz X ξ) PySem.F.plainAttrs_dict PySem.F.slot_dict_update PySem.F.type_dict_update b0J (ho.ap ξ) (ha.ap ξ) hbase hfew hline hs hplain).imp fun σ H Q t=>by
  refine l6 (t) fun G ρ R t=>?_
  refine (TD.b5r (rel:=C1) R t).mono fun x H1 Z0=>Y9 (Z0) fun G1 ρ1 w er s1 R1 q1 t2=>?_
  refine f9 (a2x er) fun Z1 Z2=>?_; subst Z1; subst Z2
  have hv:σ[i]?=some (some x):=q1
  obtain ⟨u,ρ2,e2,t3⟩:=t2.step fun r h=>⟨(),_,(a9F h).1⟩
  refine f9 (a9F e2) fun e3 Z9=>A6 Z9 fun l0 es0 h0=>?_
  cases e3
  refine j7 (slot_of R1 h0 hv) fun p0 Z1 g0 Z9=>c6 Z9 fun kvs0 hx0 _=>?_; subst Z1
  refine ⟨.inr (.inr (.inl ⟨rfl,.inl ⟨kvs0,hx0⟩⟩)),?_⟩
  refine (TD.bind (rel:=K7) R1 t3).mono fun vs H2 Z0=>n6 (Z0) fun G2 ρ2 ws s2 R2 q2 t4=>?_
  match ws,q2,t4 with
  | [],_,⟨r,er,_⟩=>cases er
  | _::_::_,_,⟨r,er,_⟩=>cases er
  | [w],q2,t4=>
   cases q2 with
   | @cons v _ vs _ h t=>
    cases t
    obtain ⟨dv,ρ3,e4,r,er,p⟩:=t4.step fun r h=>W3 h
    refine j7 (h.1.D3 R2 e4) fun G3 s3 R3 rv=>?_
    unfold a2d at er
    split at er
    ·rename_i l es ps hi
     refine f9 (z7 er) fun hz er=>?_
     cases er
     refine j7 (slot_of R3 hi hv) fun pp ep g Z9=>c6 Z9 fun kvs hx rl=>?_
     cases ep
     refine i9 (L0.dct R3.gH (.inl rv)) fun b more Z1 hb rb=>?_; subst Z1
     have hab:p0≠b:=by
      rintro rfl
      obtain ⟨o,ho⟩:∃ o,G3 p0=some o:=by
       cases rv with
       | dct hg _=>rcases hg with hg | ⟨_,hg⟩ <;> exact ⟨_,hg⟩
      rw [g] at ho
      cases ho
     refine ⟨p0,b,kvs,more,rfl,rfl,hab,hx,hb,?_,?_⟩
     ·have e1:=rl.len
      have e2:=rb.len
      rw [e1,e2,sizeLine_eq]; unfold small at hz; omega
     ·exact p .w6 G3 _ s3 (R3.write hi hv ⟨a2A kvs more,l9,a6l rb rl⟩) .w6
    ·cases er
variable {ρ ρ1 ρ2 ρ3:k9}{w:W}{es es0 ps:List (Key×D)}{i:Nat}{l:Bool}
theorem a9Y (h0:ρ[i]?=some (some (.ow l (.dct es0))))(ha:mr ρ=some (.ok [w] ρ1))(hl:D3 w ρ1=some (.ok (.dct ps) ρ2))(h1:ρ2[i]?=some (some (.ow l (.dct es))))(hz:small (es.length + ps.length))
  (hs:ρ2.set i (some (.ow l (.dct (a1o es ps))))=ρ3):V0 (a3S i mr) ρ=some (.nx ρ3):=by
 subst hs
 refine a3O (w:=.val .w6) ?_
 unfold a3S
 have hc:b1a i ρ=some (.ok () ρ):=by
  unfold b1a
  rw [h0]
 rw [M.j8 (d7 h0),M.j8 hc,M.j8 ha]
 show M.bind (D3 w) (a2d i) ρ1=_
 rw [M.j8 hl]
 unfold a2d
 rw [h1]
 exact A4 hz
end
end L3
set_option Elab.async false
set_option linter.all false
set_option maxRecDepth 100000
set_option maxHeartbeats 4000000
namespace L3
open PySem PySem.Spec PyProof.Rows L2
noncomputable def a6U (f:Str)(d:D):List (Str×D)→List (Str×D)
 | []=>[(f,d)]
 | (g,x)::r=>if g=f then (g,d)::r else (g,x)::a6U f d r
section
variable {K:PySem.W.Frag}{G:Hp}{f:Str}
theorem G7.put {v:V}{d:D}(hv:f≠N3→Rep K G v d):∀ {fs:List (Str×V)} {fds:List (Str×D)},G7 K G fs fds→G7 K G (V9 f v fs) (a6U f d fds)
 | _,_,.nil=>.cons ⟨rfl,hv⟩ .nil
 | (g,x)::fs,(g',y)::fds,.cons h t=>by
  refine f9 (h) fun e h2=>?_
  have e:g=g':=e
  subst e
  show G7 K G (if g=f then (g,v)::fs else (g,x)::V9 f v fs) (if g=f then (g,d)::fds else (g,y)::a6U f d fds)
  by_cases z:g=f
  ·rw [if_pos z,if_pos z]
   exact .cons ⟨rfl,fun n=>hv (fun w=>n (z.trans w))⟩ t
  ·rw [if_neg z,if_neg z]
   exact .cons ⟨rfl,h2⟩ (G7.put hv t)
theorem G7.look:∀ {fs:List (Str×V)} {fds:List (Str×D)},G7 K G fs fds→∀ {d:D},fds.lookup f=some d→∃ v,fs.lookup f=some v∧(f≠N3→Rep K G v d)
 | _,_,.nil,d,e=>by cases e
 | (g,x)::fs,(g',y)::fds,.cons h t,d,e=>by
  refine f9 (h) fun eg h2=>?_
  have eg:g=g':=eg
  subst eg
  by_cases z:f=g
  ·subst z
   rw [List.lookup_cons_self] at e ⊢
   cases e
   exact ⟨x,rfl,h2⟩
  ·have hb:(f == g)=false:=beq_eq_false_iff_ne.mpr z
   simp only [List.lookup,hb] at e ⊢
   exact G7.look t e
theorem G7.a7Q:∀ {fs:List (Str×V)} {fds:List (Str×D)},G7 K G fs fds→fds.lookup f=none→fs.lookup f=none
 | _,_,.nil,_=>rfl
 | (g,x)::fs,(g',y)::fds,.cons h t,e=>by
  refine f9 (h) fun eg h2=>?_
  have eg:g=g':=eg
  subst eg
  by_cases z:f=g
  ·subst z
   rw [List.lookup_cons_self] at e
   cases e
  ·have hb:(f == g)=false:=beq_eq_false_iff_ne.mpr z
   simp only [List.lookup,hb] at e ⊢
   exact G7.a7Q t e
theorem G7.len {fs:List (Str×V)}{fds:List (Str×D)}(h:G7 K G fs fds):fs.length=fds.length:=Paired.length h
end
structure a2I (K:PySem.W.Frag) (C:Addr) (fns:List Str):Prop where
 cls:Cls K C
 no:∀ (k:Nat) f,fns[k]?=some f→a0t K C f
section
variable {B:Bs}{G H:Hp}{σ:St}{ρ:k9}
theorem RS.a9H {i j:Nat}{C p dx:Addr}{l:Bool}{fds fds':List (Str×D)}{fs fs':List (Str×V)}(R:RS B G H σ ρ)(hO:B.O=some (i,j,C))(hi:ρ[i]?=some (some (.ob l fds)))(hs:σ[i]?=some (some (.ref p)))(hp:H p=some (.ins C dx fs))(hr:G7 B.K G fs' fds')
  (hl:∀ v,fs'.lookup N3=some v→∀ d,ρ[j]?=some (some (.ow true d))→σ[j]?=some (some v)):RS B G (upd H p (.ins C dx fs')) σ (ρ.set i (some (.ob l fds'))):=by
 refine a0F (R.ob.1 i l fds hi) fun j' C' p' dx' fs0 a1 a2 a3 a4 a5 a6 a7 a8=>?_
 rw [hs] at a2
 cases a2
 have hil:i < ρ.length:=(List.getElem?_eq_some_iff.mp hi).1
 refine ⟨R.hk,fun b u q=>?_,R.g0,fun b u q=>?_,R.gnew,fun b q=>?_,by simp [R.len],fun k e q=>?_,fun k l2 e q=>?_,fun k m a b c e p' x y=>?_,R.fz.a3E (by intro _ h; cases h),fun k l2 fds2 q=>?_,fun k fds2 q=>?_⟩
 ·rw [j3 (t9 q a4)]; exact R.keep b u q
 ·rw [j3 (t9 q a3)]; exact R.gH b u q
 ·by_cases z:b=p
  ·subst z; rw [l9] at q; cases q
  ·rw [j3 z] at q; exact R.dom b q
 ·by_cases z:i=k
  ·subst z; rw [List.getElem?_set_self hil] at q; cases q
  ·rw [List.getElem?_set_ne z] at q; exact R.sh k e q
 ·by_cases z:i=k
  ·subst z; rw [List.getElem?_set_self hil] at q; cases q
  ·rw [List.getElem?_set_ne z] at q
   refine x6 (R.ow k l2 e q) fun q0 b1 b2 b3 b4 b5=>?_
   exact ⟨q0,b1,b2,b3,b4,b5.same (i6.refl G) (j3 (W0 b5 hp).symm)⟩
 ·by_cases z:i=k
  ·subst z; rw [List.getElem?_set_self hil] at x; cases x
  ·by_cases z':i=m
   ·subst z'; rw [List.getElem?_set_self hil] at y; cases y
   ·rw [List.getElem?_set_ne z] at x
    rw [List.getElem?_set_ne z'] at y
    exact R.inj k m a b c e p' x y
 ·by_cases z:i=k
  ·subst z
   rw [List.getElem?_set_self hil] at q
   cases q
   refine ⟨j,C,p,dx,fs',hO,hs,a3,a4,a5,l9,hr,fun v hv d hd=>?_⟩
   have hij:i≠j:=fun z=>by rw [← z,List.getElem?_set_self hil] at hd; cases hd
   rw [List.getElem?_set_ne hij] at hd
   exact hl v hv d hd
  ·rw [List.getElem?_set_ne z] at q
   refine b12 (R.ob.1 k l2 fds2 q) fun _ _ _ _ _ b1 _=>?_
   rw [hO] at b1
   cases b1
   exact absurd rfl z
 ·refine Or.elim (M8 q) (fun Z0=>f9 (Z0) fun _ z=>?_) fun Z1=>f9 (Z1) fun _ z=>?_
  ·cases z
  ·exact R.ob.2 k fds2 z
end
noncomputable def b0Y (i:Nat)(f:Str)(ρ:k9):Option D:=match ρ[i]? with
 | some (some (.ob _ fds))=>if f=N3 then none else fds.lookup f
 | _=>none
noncomputable def a93 (i:Nat)(f:Str):M W:=fun ρ=>(b0Y i f ρ).map fun d=>.ok (.val d) ρ
noncomputable def a4t (i:Nat)(f:Str)(d:D):SM:=fun ρ=>match ρ[i]? with
 | some (some (.ob l fds))=>if f=N3 then none else grd (fds.length < 1000) (some (.nx (ρ.set i (some (.ob l (a6U f d fds))))))
 | _=>none
noncomputable def a2o (i:Nat)(f:Str)(me:M W):SM:=C3 me fun w=>C3 (D3 w) fun d=>a4t i f d
noncomputable def a7m (i:Nat)(f:Str)(me:M W):SM:=fun ρ=>match b0Y i f ρ with
 | some (.int a)=>C3 me (fun y ρ1=>match getD y ρ1 with
  | some (.int b)=>a4t i f (.int (a + b)) ρ1
  | _=>none) ρ
 | _=>none
section
variable {X:Cx}{B:Bs}{x f:Str}{i j:Nat}{C:Addr}{fns:List Str}{e:Expr}{me:M W}{p1 p2 pos:Pos}{G H:Hp}{σ:St}{ρ:k9}
theorem a9y {d:D}(hO:B.O=some (i,j,C))(R:RS B G H σ ρ)(h:b0Y i f ρ=some d):∃ p dx fs v,σ[i]?=some (some (.ref p))∧H p=some (.ins C dx fs)∧fs.lookup f=some v∧Rep B.K G v d:=by
 unfold b0Y at h
 split at h
 ·rename_i l fds hi
  split at h
  ·cases h
  ·rename_i nt
   refine a0F (R.ob.1 i l fds hi) fun j' C' p dx fs a1 a2 a3 a4 a5 a6 a7 a8=>?_
   rw [hO] at a1
   cases a1
   refine c6 (G7.look a7 h) fun v hv r=>?_
   exact ⟨p,dx,fs,v,a2,a6,hv,r nt⟩
 ·cases h
theorem a5f {d:D}{v:V}{r:SR}(hO:B.O=some (i,j,C))(R:RS B G H σ ρ)(hv:Rep B.K G v d)(h:a4t i f d ρ=some r):∃ p dx fs ρ',σ[i]?=some (some (.ref p))∧H p=some (.ins C dx fs)∧fs.length < 1000∧r=.nx ρ'∧RS B G (upd H p (.ins C dx (V9 f v fs))) σ ρ':=by
 unfold a4t at h
 split at h
 ·rename_i l fds hi
  split at h
  ·cases h
  ·rename_i nt
   refine f9 (z7 h) fun hz h=>?_
   cases h
   refine a0F (R.ob.1 i l fds hi) fun j' C' p dx fs a1 a2 a3 a4 a5 a6 a7 a8=>?_
   rw [hO] at a1
   cases a1
   refine ⟨p,dx,fs,_,a2,a6,by rw [G7.len a7]; exact hz,rfl,R.a9H hO hi a2 a6 (G7.put (fun _=>hv) a7) fun u hu d hd=>?_⟩
   rw [X3,if_neg (fun z=>nt z.symm)] at hu
   exact a8 u hu d hd
 ·cases h
theorem b3i (i j:Nat)(O:a2I X.K C fns)(k:Nat)(hf:autoParam (fns[k]?=some f) m6._auto_1)(hO:autoParam (B.O=some (i,j,C)) m6._auto_1)(hN:autoParam (X.N[i]?=some x) m6._auto_1)(hv:autoParam (Vis X.env.scope x) au0._auto_1)(hd:autoParam ((x == ("__debug__":Str))=false) Y0._auto_1) (hcd:autoParam ((x == ("__classdict__":Str))=false) Y0._auto_1)
  (hb:autoParam (attributeBase (.Name x p1) f X.env (eval (.Name x p1) X.env)=eval (.Name x p1) X.env) m6._auto_1):PD X B (.Attribute (.Name x p1) f pos) (a93 i f):=.mk fun ξ=>
 (a8m (X:=rz X ξ) (a0u (X:=rz X ξ) (i:=i) (pos:=p1) hN hv hd hcd) hb).imp fun σ H Q t=>by
  refine l6 (t) fun G ρ R Z9=>c6 Z9 fun r e p=>?_
  refine c6 (Option.map_eq_some_iff.mp e) fun d hd Z1=>?_; subst Z1
  refine a3t (a9y hO R hd) fun q dx fs v h1 h2 h3 h4=>?_
  exact ⟨_,h1,q,C,dx,fs,v,rfl,h2,O.cls,O.no k f hf,h3,p v G H (i6.refl _) R h4⟩
theorem a5x (i j:Nat)(O:a2I X.K C fns)(k:Nat)(he:PD X B e me)(hf:autoParam (fns[k]?=some f) m6._auto_1)(hO:autoParam (B.O=some (i,j,C)) m6._auto_1)(hN:autoParam (X.N[i]?=some x) m6._auto_1)(hv:autoParam (Vis X.env.scope x) au0._auto_1)(hd:autoParam ((x == ("__debug__":Str))=false) Y0._auto_1) (hcd:autoParam ((x == ("__classdict__":Str))=false) Y0._auto_1)
  (hs:autoParam (swapsWith e (some (.Attribute (.Name x p1) f p2)) pos.line X.env=pure false) m6._auto_1):PSD X B (.Assign [.Attribute (.Name x p1) f p2] e pos) (a2o i f me):=.mk fun ξ=>
 (b3n (X:=rz X ξ) (a0u (X:=rz X ξ) (i:=i) (pos:=p1) hN hv hd hcd) (he.ap ξ) hs).imp fun Dn σ H t=>by
  refine l6 (t) fun G ρ R t=>?_
  refine (SD.step (rel:=C1) R t).mono fun y H1 Z0=>n6 (Z0) fun G1 ρ1 w s1 R1 q1 t2=>?_
  obtain ⟨d,ρ2,e2,r,er,p⟩:=SD.quiet t2 fun r h=>W3 h
  refine j7 (q1.D3 R1 e2) fun G2 s2 R2 rv=>?_
  refine a5Q (a5f hO R2 rv er) fun q dx fs ρ' h1 h2 h3 Z1 R'=>?_; subst Z1
  exact ⟨_,h1,q,C,dx,fs,rfl,h2,O.cls,O.no k f hf,h3,p σ G2 _ s2 R'⟩
theorem b2S (i j:Nat)(O:a2I X.K C fns)(k:Nat)(he:PD X B e me)(hf:autoParam (fns[k]?=some f) m6._auto_1)(hO:autoParam (B.O=some (i,j,C)) m6._auto_1)(hN:autoParam (X.N[i]?=some x) m6._auto_1)(hv:autoParam (Vis X.env.scope x) au0._auto_1)(hd:autoParam ((x == ("__debug__":Str))=false) Y0._auto_1) (hcd:autoParam ((x == ("__classdict__":Str))=false) Y0._auto_1):
  PSD X B (.AugAssign (.Attribute (.Name x p1) f p2) .Add e pos) (a7m i f me):=.mk fun ξ=>
 (b0n (X:=rz X ξ) (a0u (X:=rz X ξ) (i:=i) (pos:=p1) hN hv hd hcd) (he.ap ξ) b5K).imp fun Dn σ H t=>by
  refine l6 (t) fun G ρ R Z9=>c6 Z9 fun r e p=>?_
  unfold a7m at e
  split at e
  ·rename_i a ha
   refine a3t (a9y hO R ha) fun q dx fs v h1 h2 h3 h4=>?_
   refine ⟨_,h1,q,C,dx,fs,v,rfl,h2,O.cls,O.no k f hf,h3,?_⟩
   refine (SD.step (rel:=C1) R ⟨r,e,p⟩).mono fun y H1 Z0=>n6 (Z0) fun G1 ρ1 w s1 R1 q1 Z9=>c6 Z9 fun r e p=>?_
   dsimp only at e
   split at e
   ·rename_i b hb
    cases h4
    refine a5Q (a5f (v:=.int (a + b)) hO R1 (.int _) e) fun q' dx' fs' ρ' g1 g2 g3 Z1 R'=>?_; subst Z1
    rw [h1] at g1
    cases g1
    exact ⟨a,b,rfl,(q1.get R1 hb).int,dx',fs',g2,g3,p σ G1 _ (i6.refl _) R'⟩
   ·cases e
  ·cases e
noncomputable def a2M (i j:Nat)(ρ:k9):Bool:=match ρ[i]?,ρ[j]? with
 | some (some (.ob _ fds)),some (some (.ow true _))=>(fds.lookup N3).isSome
 | _,_=>false
noncomputable def a8l (i j:Nat):M W:=fun ρ=>if a2M i j ρ=true then some (.ok (.slot j) ρ) else none
theorem b07 {i j:Nat}:b1N j (a8l i j):=fun ρ w ρ' h=>by
 unfold a8l at h
 split at h
 ·cases h; exact ⟨rfl,rfl⟩
 ·cases h
theorem a9l (hO:B.O=some (i,j,C))(R:RS B G H σ ρ)(h:a2M i j ρ=true):∃ l fds p dx fs t d,ρ[i]?=some (some (.ob l fds))∧ρ[j]?=some (some (.ow true d))∧σ[i]?=some (some (.ref p))∧H p=some (.ins C dx fs)∧G7 B.K G fs fds∧fs.lookup N3=some (.ref t)∧σ[j]?=some (some (.ref t))∧G p=none∧A5 B.K G H t d:=by
 unfold a2M at h
 split at h
 ·rename_i l fds d hi hj
  refine g8 (Option.isSome_iff_exists.mp h) fun d0 hd0=>?_
  refine a0F (R.ob.1 i l fds hi) fun j' C' p dx fs a1 a2 a3 a4 a5 a6 a7 a8=>?_
  rw [hO] at a1
  cases a1
  refine c6 (G7.look a7 hd0) fun v hv _=>?_
  have e:=a8 v hv d hj
  refine x6 (R.ow j true d hj) fun t b1 b2 b3 b4 b5=>?_
  rw [e] at b1
  cases b1
  exact ⟨l,fds,p,dx,fs,t,d,hi,hj,a2,a6,a7,hv,e,a3,b5⟩
 ·cases h
theorem b5o (i j:Nat)(O:a2I X.K C fns)(k:Nat)(hf:autoParam (fns[k]?=some N3) m6._auto_1)(hO:autoParam (B.O=some (i,j,C)) m6._auto_1)(hN:autoParam (X.N[i]?=some x) m6._auto_1)(hv:autoParam (Vis X.env.scope x) au0._auto_1)(hd:autoParam ((x == ("__debug__":Str))=false) Y0._auto_1) (hcd:autoParam ((x == ("__classdict__":Str))=false) Y0._auto_1)
  (hb:autoParam (attributeBase (.Name x p1) N3 X.env (eval (.Name x p1) X.env)=eval (.Name x p1) X.env) m6._auto_1):PD X B (.Attribute (.Name x p1) N3 pos) (a8l i j):=.mk fun ξ=>
 (a8m (X:=rz X ξ) (a0u (X:=rz X ξ) (i:=i) (pos:=p1) hN hv hd hcd) hb).imp fun σ H Q t=>by
  refine l6 (t) fun G ρ R Z9=>c6 Z9 fun r e p=>?_
  unfold a8l at e
  split at e
  ·rename_i ht
   cases e
   refine b5b (a9l hO R ht) fun l fds q dx fs t d h1 h2 h3 h4 h5 h6 h7 h8 h9=>?_
   exact ⟨_,h3,q,C,dx,fs,_,rfl,h4,O.cls,O.no k N3 hf,h6,p _ G H (i6.refl _) R h7⟩
  ·cases e
end
end L3
set_option Elab.async false
set_option linter.all false
set_option maxRecDepth 100000
set_option maxHeartbeats 4000000
namespace L3
open PySem PySem.Spec PyProof.Rows L2
theorem _root_.L2.Inv.ghost {X:Cx}{pins:List (Addr×Obj)}{σ:St}{H:Hp}{s:Shared}{j:Nat}{g:Str}(v:Option V)(I:Inv X pins σ H s)(hj:X.N[j]?=some g)(hg:¬ Vis X.env.scope g):Inv X pins (σ.set j v) H s:=by
 refine c6 (I.loc) fun m hn h=>?_
 refine ⟨I.ok,I.os,I.bare,I.base,⟨m,hn,fun i x u hx hv hvis=>h i x u hx ?_ hvis⟩,I.cell,I.free,I.freeC,I.pin,I.hok,by rw [List.length_set]; exact I.len⟩
 by_cases z:j=i
 ·subst z
  rw [hj] at hx
  cases hx
  exact absurd hvis hg
 ·rw [List.getElem?_set_ne z] at hv
  exact hv
section
variable {X:Cx}{j:Nat}{g:Str}
theorem b02 {st:List Stmt}{t:TS}(h:PSs X st t)(hj:X.N[j]?=some g)(hg:¬ Vis X.env.scope g):PSs X st (fun D σ H=>∃ v,t D (σ.set j v) H):=fun pins s σ H D I Z9=>g8 Z9 fun v q=>h pins s _ H D (I.ghost v hj hg) q
theorem a66 {st:Stmt}{t:TS}(h:PS X st t)(hj:X.N[j]?=some g)(hg:¬ Vis X.env.scope g):PS X st (fun D σ H=>t { D with nx:=fun σ' H'=>∃ v,D.nx (σ'.set j v) H' } σ H):=fun pins s σ H D I q=>
 wpAny_mono (h pins s σ H _ I q) (fun fl s' z=>by
  cases fl with
  | next=>refine l6 (z) fun σ' H' I' Z9=>g8 Z9 fun v q=>?_; exact ⟨σ'.set j v,H',I'.ghost v hj hg,q⟩
  | brk=>exact z
  | cont=>exact z
  | ret u=>exact z) fun e s z=>z
end
section
variable {B:Bs}{G H:Hp}{σ:St}{ρ:k9}
theorem RS.b5t {i j:Nat}{C t:Addr}{d:D}(R:RS B G H σ ρ)(hO:B.O=some (i,j,C))(hL:B.L j=none)(hjl:j < ρ.length)(h:D4 B G H σ ρ (.ref t) (.own d))
  (hl:∀ l fds p dx fs,ρ[i]?=some (some (.ob l fds))→σ[i]?=some (some (.ref p))→H p=some (.ins C dx fs)→∀ v,fs.lookup N3=some v→v=.ref t):RS B G H (σ.set j (some (.ref t))) (ρ.set j (some (.ow true d))):=by
 refine x6 (h) fun p e g h0 o ne=>?_
 cases e
 have hs:j < σ.length:=by rw [R.len]; exact hjl
 have ghj:B.gh j=true:=by unfold Bs.gh; rw [hO]; simp
 refine ⟨R.hk,R.keep,R.g0,R.gH,R.gnew,R.dom,by simp [R.len],fun k d' q'=>?_,fun k l d' q'=>?_,fun k m l d' l' e' p' a b=>?_,R.fz.a7s (by intro _ h; cases h),fun k l fds q'=>?_,fun k fds q'=>?_⟩
 ·by_cases z:j=k
  ·subst z; rw [List.getElem?_set_self hjl] at q'; cases q'
  ·rw [List.getElem?_set_ne z] at q' ⊢; exact R.sh k d' q'
 ·by_cases z:j=k
  ·subst z
   rw [List.getElem?_set_self hjl] at q'
   cases q'
   refine ⟨t,by rw [List.getElem?_set_self hs],g,?_,.inr ⟨ghj,hL,h0⟩,o⟩
   cases hq:B.HK t with
   | none=>rfl
   | some ob=>rw [R.hk t ob hq] at h0; cases h0
  ·rw [List.getElem?_set_ne z] at q' ⊢; exact R.ow k l d' q'
 ·by_cases z:j=k
  ·by_cases z':j=m
   ·intro _ _; omega
   ·subst z
    rw [List.getElem?_set_self hs,List.getElem?_set_ne z']
    rw [List.getElem?_set_ne z'] at b
    intro a1 a2
    cases a1
    exact absurd a2 (ne m l' e' b)
  ·by_cases z':j=m
   ·subst z'
    rw [List.getElem?_set_self hs,List.getElem?_set_ne z]
    rw [List.getElem?_set_ne z] at a
    intro a1 a2
    cases a2
    exact absurd a1 (ne k l d' a)
   ·rw [List.getElem?_set_ne z] at a ⊢
    rw [List.getElem?_set_ne z'] at b ⊢
    exact R.inj k m l d' l' e' p' a b
 ·by_cases z:j=k
  ·subst z; rw [List.getElem?_set_self hjl] at q'; cases q'
  ·rw [List.getElem?_set_ne z] at q' ⊢
   refine a0F (R.ob.1 k l fds q') fun j' C' p dx fs a1 a2 a3 a4 a5 a6 a7 a8=>?_
   rw [hO] at a1
   cases a1
   refine ⟨j,C,p,dx,fs,hO,a2,a3,a4,a5,a6,a7,fun v hv d' hd'=>?_⟩
   rw [List.getElem?_set_self hs,hl l fds p dx fs q' a2 a6 v hv]
 ·refine Or.elim (M8 q') (fun Z0=>f9 (Z0) fun _ z=>?_) fun Z1=>f9 (Z1) fun n z=>?_
  ·cases z
  ·rw [List.getElem?_set_ne n]; exact R.ob.2 k fds z
end
noncomputable def tabS (i j:Nat)(me:M W):SM:=C3 me fun w ρ=>match w,ρ[i]? with
 | .own (.dct es),some (some (.ob l fds))=>grd (j < ρ.length∧i≠j∧fds.length < 1000∧ρ[j]?.join.isNone=true) (some (.nx ((ρ.set i (some (.ob l (a6U N3 .w6 fds)))).set j (some (.ow true (.dct es))))))
 | _,_=>none
section
variable {X:Cx}{B:Bs}{x g:Str}{i j:Nat}{C:Addr}{fns:List Str}{e:Expr}{me:M W}{p1 p2 pos:Pos}
theorem b8m (i j:Nat)(O:a2I X.K C fns)(k:Nat)(he:PD X B e me)(hL:B.L j=none)(hg:¬ Vis X.env.scope g)(hj:autoParam (X.N[j]?=some g) m6._auto_1)(hf:autoParam (fns[k]?=some N3) m6._auto_1)(hO:autoParam (B.O=some (i,j,C)) m6._auto_1)(hN:autoParam (X.N[i]?=some x) m6._auto_1)(hv:autoParam (Vis X.env.scope x) au0._auto_1)(hd:autoParam ((x == ("__debug__":Str))=false) Y0._auto_1) (hcd:autoParam ((x == ("__classdict__":Str))=false) Y0._auto_1)
  (hs:autoParam (swapsWith e (some (.Attribute (.Name x p1) N3 p2)) pos.line X.env=pure false) m6._auto_1):PSD X B (.Assign [.Attribute (.Name x p1) N3 p2] e pos) (tabS i j me):=.mk fun ξ=>
 (a66 (j:=j) (g:=g) (b3n (X:=rz X ξ) (a0u (X:=rz X ξ) (i:=i) (pos:=p1) hN hv hd hcd) (he.ap ξ) hs) hj hg).imp fun Dn σ H t=>by
  refine l6 (t) fun G ρ R t=>?_
  refine (SD.step (rel:=C1) R t).mono fun y H1 Z0=>n6 (Z0) fun G1 ρ1 w s1 R1 q1 Z9=>c6 Z9 fun r e p=>?_
  dsimp only at e
  split at e
  ·rename_i es l fds hi
   refine f9 (z7 e) fun Z1 e=>?_; refine a1w (Z1) fun z1 z2 z3 z4=>?_
   cases e
   refine a0F (R1.ob.1 i l fds hi) fun j' C' q dx fs a1 a2 a3 a4 a5 a6 a7 a8=>?_
   rw [hO] at a1
   cases a1
   refine x6 (q1) fun t Z1 g1 g2 o ne=>?_; subst Z1
   have nj:∀ d,ρ1[j]?≠some (some (.ow true d)):=fun d h=>by rw [h] at z4; cases z4
   have R2:=R1.a9H (fs':=V9 N3 (.ref t) fs) (fds':=a6U N3 .w6 fds) hO hi a2 a6 (G7.put (fun n=>absurd rfl n) a7) fun v _ d hd=>absurd hd (nj d)
   have ho:A5 B.K G1 (upd H1 q (.ins C dx (V9 N3 (.ref t) fs))) t (.dct es):=o.same (i6.refl _) (j3 (W0 o a6).symm)
   have R3:=R2.b5t (d:=.dct es) hO hL (by simpa using z1) ⟨t,rfl,g1,g2,ho,fun k l2 e2 h2 z=>?_⟩ fun l2 fds2 p2 dx2 fs2 b1 b2 b3 v hv=>?_
   ·refine ⟨_,a2,q,C,dx,fs,rfl,a6,O.cls,O.no k N3 hf,by rw [G7.len a7]; exact z3,some (.ref t),p _ G1 _ (i6.refl _) R3⟩
   ·have hil:i < ρ1.length:=(List.getElem?_eq_some_iff.mp hi).1
    by_cases zz:i=k
    ·subst zz; rw [List.getElem?_set_self hil] at h2; cases h2
    ·rw [List.getElem?_set_ne zz] at h2
     exact ne k l2 e2 h2 z
   ·rw [a2] at b2
    cases b2
    rw [l9] at b3
    cases b3
    rw [X3,if_pos rfl] at hv
    exact (Option.some.inj hv).symm
  ·cases e
end
inductive MR where
 | ret (d:D) (fds:List (Str×D)) (es:List (Key×D))
structure a8w (K:PySem.W.Frag) (C:Addr) (G H:Hp) (p t:Addr) (G' H':Hp) (fds:List (Str×D)) (es:List (Key×D)):Prop where
 keep:i6 (minus H [p,t]) H'
 gg:i6 G G'
 gH:i6 G' H'
 gnew:∀ q o,G' q=some o→G q=some o∨H q=none
 dom:∀ q,H' q=none→H q=none
 ob:∃ dx fs,H' p=some (.ins C dx fs)∧G7 K G' fs fds∧fs.lookup N3=some (.ref t)
 gp:G' p=none
 gt:G' t=none
 tb:A5 K G' H' t (.dct es)
noncomputable def SpM (K:PySem.W.Frag)(C:Addr)(np:Nat)(fm:List (Str×D)→List (Key×D)→List D→Option MR):Sp:=fun vs H Q E=>∃ G p t rest dx fs fds es ds d fds' es',vs=.ref p::rest∧ds.length + 1=np∧i6 G H∧G p=none∧G t=none∧H p=some (.ins C dx fs)∧G7 K G fs fds∧fs.lookup N3=some (.ref t)∧
 A5 K G H t (.dct es)∧t6 K G rest ds∧fm fds es ds=some (.ret d fds' es')∧∀ v G' H',a8w K C G H p t G' H' fds' es'→Rep K G' v d→Q v H'
theorem SpM.imp {K:PySem.W.Frag}{C:Addr}{np:Nat}{fm fm':List (Str×D)→List (Key×D)→List D→Option MR}(h:∀ fds es ds r,fm fds es ds=some r→fm' fds es ds=some r):∀ vs H Q E,SpM K C np fm vs H Q E→SpM K C np fm' vs H Q E:=by
 rintro vs H Q E ⟨G,p,t,rest,dx,fs,fds,es,ds,d,fds',es',a1,a2,a3,a4,a5,a6,a7,a8,a9,a10,a11,a12⟩
 exact ⟨G,p,t,rest,dx,fs,fds,es,ds,d,fds',es',a1,a2,a3,a4,a5,a6,a7,a8,a9,a10,h _ _ _ _ a11,a12⟩
noncomputable def U0 (n:Nat)(fds:List (Str×D))(ds:List D):k9:=(some (.ob true fds)::ds.map fun d=>some (C.sh d))++List.replicate (n - (ds.length + 1)) none
noncomputable def startM (n j:Nat)(fds:List (Str×D))(es:List (Key×D))(ds:List D):k9:=(U0 n fds ds).set j (some (.ow true (.dct es)))
noncomputable def a97 (j:Nat)(d:D)(ρ:k9):Option MR:=match (ρ[0]?:Option (Option C)),(ρ[j]?:Option (Option C)) with
 | some (some (.ob true fds)),some (some (.ow true (.dct es)))=>if (fds.lookup N3).isSome=true then some (.ret d fds es) else none
 | _,_=>none
noncomputable def b6h (j:Nat):SR→Option MR
 | .nx ρ=>a97 j .w6 ρ
 | .rt (.val d) ρ=>a97 j d ρ
 | _=>none
noncomputable def runM (m:SM)(n j:Nat)(fds:List (Str×D))(es:List (Key×D))(ds:List D):Option MR:=(m (startM n j fds es ds)).bind (b6h j)
theorem C7 {n i:Nat}{fds:List (Str×D)}{ds:List D}{c:C}(h:(U0 n fds ds)[i]?=some (some c)):(i=0∧c=.ob true fds)∨∃ k d,i=k + 1∧ds[k]?=some d∧c=.sh d:=by
 unfold U0 at h
 by_cases hi:i < (some (C.ob true fds)::ds.map fun d=>some (C.sh d)).length
 ·rw [List.getElem?_append_left hi] at h
  cases i with
  | zero=>cases h; exact .inl ⟨rfl,rfl⟩
  | succ k=>
   rw [List.getElem?_cons_succ,List.getElem?_map] at h
   cases e:ds[k]? with
   | none=>rw [e] at h; cases h
   | some d=>rw [e] at h; cases h; exact .inr ⟨k,d,rfl,e,rfl⟩
 ·rw [List.getElem?_append_right (by omega),List.getElem?_replicate] at h
  split at h <;> cases h
theorem a4L {n:Nat}{fds:List (Str×D)}{ds:List D}(h:ds.length + 1≤n):(U0 n fds ds).length=n:=by
 unfold U0
 simp
 omega
theorem a2k {N:List Str}{vs:List V}(h:vs.length≤N.length):(start N vs).length=N.length:=by
 unfold L2.start
 rw [List.length_append,List.length_map,List.length_replicate]
 omega
section
variable {K:PySem.W.Frag}{G H:Hp}{N:List Str}{C p t dx:Addr}{rest:List V}{fs:List (Str×V)}{fds:List (Str×D)}{es:List (Key×D)}{ds:List D}{j:Nat}
theorem a5P {L:Nat→Option Addr}{HK:Hp}(hk:i6 HK H)(hkp:HK p=none)(hL:L 0=some p)(g:i6 G H)(gp:G p=none)(hp:H p=some (.ins C dx fs))(rf:G7 K G fs fds)(rl:t6 K G rest ds)(hn:ds.length + 1≤N.length)(hj:ds.length < j):
  RS ⟨K,H,HK,G,L,some (0,j,C)⟩ G H (start N (.ref p::rest)) (U0 N.length fds ds):=by
 refine ⟨hk,hk,i6.refl _,g,fun q o e=>.inl e,fun q e=>e,?_,fun i d e=>?_,fun i l d e=>?_,fun i k l d l' e p' a b=>?_,fun i es e=>?_,fun i l fds' e=>?_,fun i fds' e=>?_⟩
 ·rw [a4L hn,a2k (by rw [List.length_cons,rl.len]; exact hn)]
 ·rcases C7 e with ⟨_,z⟩ | ⟨k,d',rfl,hd,z⟩
  ·cases z
  ·cases z
   refine c6 (rl.at hd) fun v hv r=>?_
   exact ⟨v,N1 (by rw [List.getElem?_cons_succ]; exact hv),r⟩
 ·rcases C7 e with ⟨_,z⟩ | ⟨k,d',_,_,z⟩ <;> cases z
 ·rcases C7 a with ⟨_,z⟩ | ⟨k,d',_,_,z⟩ <;> cases z
 ·rcases C7 e with ⟨_,z⟩ | ⟨k,d',_,_,z⟩ <;> cases z
 ·rcases C7 e with ⟨rfl,z⟩ | ⟨k,d',_,_,z⟩ <;> cases z
  refine ⟨j,C,p,dx,fs,rfl,N1 rfl,gp,hkp,⟨fun _=>hL,fun z=>by cases z⟩,hp,rf,fun v hv d hd=>?_⟩
  rcases C7 hd with ⟨_,z⟩ | ⟨k,d',_,_,z⟩ <;> cases z
 ·rcases C7 e with ⟨_,z⟩ | ⟨k,d',_,_,z⟩ <;> cases z
theorem a96 (g:i6 G H)(gp:G p=none)(gt:G t=none)(hp:H p=some (.ins C dx fs))(rf:G7 K G fs fds)(lk:fs.lookup N3=some (.ref t))(tb:A5 K G H t (.dct es))(rl:t6 K G rest ds)(hn:j < N.length)(hj:ds.length < j):
  RS ⟨K,H,minus H [p,t],G,fun i=>if i=0 then some p else if i=j then some t else none,some (0,j,C)⟩ G H ((start N (.ref p::rest)).set j (some (.ref t))) (startM N.length j fds es ds):=by
 have R:=a5P (N:=N) (rest:=rest) (L:=fun i=>if i=0 then some p else if i=j then some t else none) (G9 H [p,t]) (a0g (by simp)) rfl g gp hp rf rl (by omega) hj
 have hl:(U0 N.length fds ds).length=N.length:=a4L (by omega)
 have hs:(start N (.ref p::rest)).length=N.length:=a2k (by rw [List.length_cons,rl.len]; omega)
 have hj0:j≠0:=by omega
 have now:∀ {k:Nat} {l:Bool} {d:D},(U0 N.length fds ds)[k]?≠some (some (.ow l d)):=fun {k l d} e=>by rcases C7 e with ⟨_,z⟩ | ⟨_,_,_,_,z⟩ <;> cases z
 unfold startM
 refine ⟨R.hk,R.keep,R.g0,R.gH,R.gnew,R.dom,by simp [R.len],fun k d' q'=>?_,fun k l d' q'=>?_,fun k m l d' l' e' p' a b=>?_,R.fz.a7s (by intro _ h; cases h),fun k l fds' q'=>?_,fun k fds' q'=>?_⟩
 ·by_cases z:j=k
  ·subst z; rw [List.getElem?_set_self (by omega)] at q'; cases q'
  ·rw [List.getElem?_set_ne z] at q' ⊢; exact R.sh k d' q'
 ·by_cases z:j=k
  ·subst z
   rw [List.getElem?_set_self (by omega)] at q'
   cases q'
   refine ⟨t,by rw [List.getElem?_set_self (by omega)],gt,a0g (by simp),.inl ?_,tb⟩
   show (if j=0 then some p else if j=j then some t else none)=some t
   rw [if_neg hj0,if_pos rfl]
  ·rw [List.getElem?_set_ne z] at q'; exact absurd q' now
 ·by_cases z:j=k
  ·by_cases z':j=m
   ·intro _ _; omega
   ·rw [List.getElem?_set_ne z'] at b; exact absurd b now
  ·rw [List.getElem?_set_ne z] at a; exact absurd a now
 ·by_cases z:j=k
  ·subst z; rw [List.getElem?_set_self (by omega)] at q'; cases q'
  ·rw [List.getElem?_set_ne z] at q' ⊢
   rcases C7 q' with ⟨rfl,z2⟩ | ⟨_,_,_,_,z2⟩ <;> cases z2
   refine ⟨j,C,p,dx,fs,rfl,N1 rfl,gp,a0g (by simp),⟨fun _=>rfl,fun z=>by cases z⟩,hp,rf,fun v hv d hd=>?_⟩
   rw [lk] at hv
   cases hv
   rw [List.getElem?_set_self (by omega)]
 ·refine Or.elim (M8 q') (fun Z0=>f9 (Z0) fun _ z=>?_) fun Z1=>f9 (Z1) fun n z=>?_
  ·cases z
  ·rcases C7 z with ⟨_,z⟩ | ⟨_,_,_,_,z⟩ <;> cases z
end
section
variable {P:Program}{w:World}{K:PySem.W.Frag}{mg:Str→Option Value}{base:Heap}
theorem b2Y {x qual g:Str}{st:Stmt}{f C:Addr}{fd:FuncData}{N ps:List Str}{k:Nat}(j:Nat){m:SM}(F:Fun K x qual st f fd)(S:v8 N ps (j9 st))(hj:N[j]?=some g)(hg:¬ Vis (j9 st) g)(hps:ps.length≤j)
  (hbody:∀ (cdv:Value) (A:Around) (outer:List Env) (s:Shared) (H:Hp) (E:XK) (H0 HK G0:Hp) (L:Nat→Option Addr),K5 k (A.deeper (envOfC qual (j9 st) s.heap.objs.size f cdv))→
   a2P (a4C X4 P w K mg base N qual (j9 st) f cdv A outer s H E) ⟨K,H0,HK,G0,L,some (0,j,C)⟩ (K3 st) m):B7 P w K mg base X4 (k + 1) f fd ps (SpM K C ps.length (runM m N.length j)):=by
 have hjn:j < N.length:=(List.getElem?_eq_some_iff.mp hj).1
 refine F.ok S (fun vs H Q E h=>?_) (fun cdv A outer s H vs Q E hr h=>?_)
 ·refine a9T (h) fun G p t rest dx fs fds es ds d fds' es' Z1 a2 a3 a4 a5 a6 a7 a8 a9 a10 a11 a12=>?_; subst Z1
  rw [List.length_cons,a10.len,a2]
 refine a9T (h) fun G p t rest dx fs fds es ds d fds' es' Z1 a2 a3 a4 a5 a6 a7 a8 a9 a10 hf q=>?_; subst Z1
 refine ⟨_,b02 (j:=j) (g:=g) (((hbody cdv A outer s H E H (minus H [p,t]) G (fun i=>if i=0 then some p else if i=j then some t else none) hr).ap fun _ _ _=>False).U6 (fun e s z=>?_)) hj hg,?_⟩
 ·refine a0W (z) fun _ _ _ _ _ _ z=>?_
  exact z
 have R0:=a96 (N:=N) (j:=j) a3 a4 a5 a6 a7 a8 a9 a10 hjn (by omega)
 unfold runM at hf
 cases hs:m (startM N.length j fds es ds) with
 | none=>rw [hs] at hf; cases hf
 | some sr=>
  rw [hs] at hf
  have hf':b6h j sr=some (.ret d fds' es'):=hf
  refine ⟨some (.ref t),G,_,R0,sr,hs,?_⟩
  have fin:∀ {ρ':k9} {σ':St} {G' H':Hp} {d0:D},a97 j d0 ρ'=some (.ret d fds' es')→RS ⟨K,H,minus H [p,t],G,fun i=>if i=0 then some p else if i=j then some t else none,some (0,j,C)⟩ G' H' σ' ρ'→a8w K C G H p t G' H' fds' es'∧d0=d:=fun {ρ' σ' G' H' d0} e R'=>by
   unfold a97 at e
   split at e
   ·rename_i fds2 es2 h0 hj2
    split at e
    ·rename_i hsome
     cases e
     refine g8 (Option.isSome_iff_exists.mp hsome) fun dd hdd=>?_
     refine a0F (R'.ob.1 0 true fds' h0) fun j' C' p' dx' fs' b1 b2 b3 b4 b5 b6 b7 b8=>?_
     cases b1
     have ep:some p=some p':=b5.1 rfl
     cases ep
     refine c6 (G7.look b7 hdd) fun v hv _=>?_
     have ev:=b8 v hv _ hj2
     refine x6 (R'.ow j true _ hj2) fun t' c1 c2 c3 c4 c5=>?_
     have hj0:j≠0:=by omega
     have et:t'=t:=by
      have hLj:(if j=0 then some p else if j=j then some t else none)=some t:=by rw [if_neg hj0,if_pos rfl]
      refine Or.elim (c4) (fun z=>?_) fun Z1=>n8 (Z1) fun _ z _=>?_
      ·have z':(if j=0 then some p else if j=j then some t else none)=some t':=z
       rw [hLj] at z'
       exact (Option.some.inj z').symm
      ·have z':(if j=0 then some p else if j=j then some t else none)=none:=z
       rw [hLj] at z'
       cases z'
     subst et
     rw [ev] at c1
     cases c1
     exact ⟨⟨R'.keep,R'.g0,R'.gH,R'.gnew,R'.dom,⟨dx',fs',b6,b7,hv⟩,b3,c2,c5⟩,rfl⟩
    ·cases e
   ·cases e
  cases sr with
  | nx ρ'=>
   refine fun σ' G' H' s' R'=>?_
   refine f9 (fin hf' R') fun A' z=>?_
   exact q .w6 G' H' A' (z ▸ .w6)
  | rt w' ρ'=>
   cases w' with
   | slot i=>cases hf'
   | own d=>cases hf'
   | val d0=>
    refine fun v σ' G' H' s' R' rw'=>?_
    refine f9 (fin hf' R') fun A' z=>?_
    exact q v G' H' A' (z ▸ rw')
  | ex x ρ'=>cases hf'
  | bk ρ'=>cases hf'
  | ct ρ'=>cases hf'
end
noncomputable def b1M (P:Program)(w:World)(K:PySem.W.Frag)(mg:Str→Option Value)(base:Heap)(k:Nat)(C:Addr)(m:Str)(ps:List Str)(sp:Sp):Prop:=
 ∃ (f:Addr) (fd:FuncData),B7 P w K mg base X4 k f fd ps sp∧Binds K fd ps []∧Meth K C m f
end L3
set_option Elab.async false
set_option linter.all false
set_option maxRecDepth 100000
set_option maxHeartbeats 4000000
namespace L3
open PySem PySem.Spec PyProof.Rows L2
noncomputable def rdD (i:Nat)(f:Str)(ρ:k9):Option D:=match ρ[i]? with
 | some (some (.rd fds))=>if f=N3 then none else fds.lookup f
 | _=>none
noncomputable def mRd (i:Nat)(f:Str):M W:=fun ρ=>(rdD i f ρ).map fun d=>.ok (.val d) ρ
section
variable {X:Cx}{B:Bs}{x f:Str}{i:Nat}{C:Addr}{fns:List Str}{p1 pos:Pos}
theorem b9u (i:Nat){i0 j0:Nat}(O:a2I X.K C fns)(k:Nat)(hf:autoParam (fns[k]?=some f) m6._auto_1)(hO:autoParam (B.O=some (i0,j0,C)) m6._auto_1)(hN:autoParam (X.N[i]?=some x) m6._auto_1)(hv:autoParam (Vis X.env.scope x) au0._auto_1)(hd:autoParam ((x == ("__debug__":Str))=false) Y0._auto_1) (hcd:autoParam ((x == ("__classdict__":Str))=false) Y0._auto_1)
  (hb:autoParam (attributeBase (.Name x p1) f X.env (eval (.Name x p1) X.env)=eval (.Name x p1) X.env) m6._auto_1):PD X B (.Attribute (.Name x p1) f pos) (mRd i f):=.mk fun ξ=>
 (a8m (X:=rz X ξ) (a0u (X:=rz X ξ) (i:=i) (pos:=p1) hN hv hd hcd) hb).imp fun σ H Q t=>by
  refine l6 (t) fun G ρ R Z9=>c6 Z9 fun r e p=>?_
  refine c6 (Option.map_eq_some_iff.mp e) fun d hd Z1=>?_; subst Z1
  unfold rdD at hd
  split at hd
  ·rename_i fds hi
   split at hd
   ·cases hd
   ·rename_i nt
    refine a9n (R.ob.2 i fds hi) fun i1 j1 C' q dx fs a1 a2 a3 a4=>?_
    rw [hO] at a1
    cases a1
    refine c6 (G7.look a4 hd) fun v hv r=>?_
    exact ⟨_,a2,q,C,dx,fs,v,rfl,R.keep _ _ a3,O.cls,O.no k f hf,hv,p v G H (i6.refl _) R (r nt)⟩
  ·cases hd
end
section
variable {B:Bs}{G H G' H':Hp}{σ:St}{ρ:k9}
theorem RS.b5D {i j:Nat}{C p t dx:Addr}{l:Bool}{fs:List (Str×V)}{fds fds':List (Str×D)}{es':List (Key×D)}{d:D}(R:RS B G H σ ρ)(hO:B.O=some (i,j,C))(hi:ρ[i]?=some (some (.ob l fds)))(hj:ρ[j]?=some (some (.ow true d)))(hs:σ[i]?=some (some (.ref p)))(hp:H p=some (.ins C dx fs))(ht:σ[j]?=some (some (.ref t)))
  (A:a8w B.K C G H p t G' H' fds' es'):RS B G' H' σ ((ρ.set i (some (.ob l fds'))).set j (some (.ow true (.dct es')))):=by
 refine a0F (R.ob.1 i l fds hi) fun j' C' p' dx' fs0 a1 a2 a3 a4 a5 a6 a7 a8=>?_
 rw [hs] at a2
 cases a2
 refine x6 (R.ow j true d hj) fun t' b1 b2 b3 b4 b5=>?_
 rw [ht] at b1
 cases b1
 have hil:i < ρ.length:=(List.getElem?_eq_some_iff.mp hi).1
 have hjl:j < ρ.length:=(List.getElem?_eq_some_iff.mp hj).1
 have hij:i≠j:=fun z=>by rw [z,hj] at hi; cases hi
 have keepH:∀ b o,H b=some o→b≠p→b≠t→H' b=some o:=fun b o e n1 n2=>A.keep b o (by rw [P8 (by simp [n1,n2])]; exact e)
 have notG:∀ b o,H b=some o→G b=none→G' b=none:=fun b o e g=>by
  cases q:G' b with
  | none=>rfl
  | some u=>
   refine Or.elim (A.gnew b u q) (fun z=>?_) fun z=>?_
   ·rw [g] at z; cases z
   ·rw [e] at z; cases z
 have at':∀ {k:Nat} {c:L3.C},((ρ.set i (some (.ob l fds'))).set j (some (.ow true (.dct es'))))[k]?=some (some c)→(k=j∧c=.ow true (.dct es'))∨(k≠j∧k=i∧c=.ob l fds')∨(k≠j∧k≠i∧ρ[k]?=some (some c)):=fun {k c} e=>by
  refine Or.elim (M8 e) (fun Z0=>f9 (Z0) fun z e'=>?_) fun Z1=>f9 (Z1) fun z e'=>?_
  ·cases e'; exact .inl ⟨z.symm,rfl⟩
  ·refine Or.elim (M8 e') (fun Z0=>f9 (Z0) fun z2 e2=>?_) fun Z1=>f9 (Z1) fun z2 e2=>?_
   ·cases e2; exact .inr (.inl ⟨Ne.symm z,z2.symm,rfl⟩)
   ·exact .inr (.inr ⟨Ne.symm z,Ne.symm z2,e2⟩)
 refine ⟨R.hk,fun b u q=>keepH b u (R.keep b u q) (t9 q a4) (t9 q b3),R.g0.trans A.gg,A.gH,fun b u q=>?_,fun b q=>R.dom b (A.dom b q),by simp [R.len],fun k e q=>?_,fun k l2 e q=>?_,fun k m la da lb db p' x y hx hy=>?_,(R.fz.same A.gg).a3E (by intro _ h; cases h) |>.a3E (by intro _ h; cases h),?_,?_⟩
 ·refine Or.elim (A.gnew b u q) (fun z=>?_) fun z=>?_
  ·exact R.gnew b u z
  ·exact .inr (R.dom b z)
 ·refine Or.elim (at' q) (fun Z0=>f9 (Z0) fun _ z=>?_) fun Z13=>Or.elim (Z13) (fun Z1=>n8 (Z1) fun _ _ z=>?_) fun Z2=>n8 (Z2) fun _ _ z=>?_
  ·cases z
  ·cases z
  ·refine c6 (R.sh k e z) fun v h1 h2=>?_
   exact ⟨v,h1,h2.same A.gg⟩
 ·refine Or.elim (at' q) (fun Z0=>f9 (Z0) fun z0 z=>?_) fun Z13=>Or.elim (Z13) (fun Z1=>n8 (Z1) fun _ _ z=>?_) fun Z2=>n8 (Z2) fun n1 n2 z=>?_
  ·cases z
   subst z0
   exact ⟨t,ht,A.gt,b3,b4,A.tb⟩
  ·cases z
  ·refine x6 (R.ow k l2 e z) fun q0 c1 c2 c3 c4 c5=>?_
   refine g8 (c5.some) fun o ho=>?_
   have e1:q0≠p:=(W0 c5 a6).symm
   have e2:q0≠t:=fun zz=>n1 (R.inj k j l2 e true d q0 z hj c1 (by rw [ht,zz]))
   exact ⟨q0,c1,notG q0 o ho c2,c3,c4,c5.same A.gg ((keepH q0 o ho e1 e2).trans ho.symm)⟩
 ·have old:∀ {k:Nat} {l2:Bool} {e:D},((ρ.set i (some (.ob l fds'))).set j (some (.ow true (.dct es'))))[k]?=some (some (.ow l2 e))→∃ l2 e,ρ[k]?=some (some (.ow l2 e)):=fun {k l2 e} h=>by
   refine Or.elim (at' h) (fun Z0=>f9 (Z0) fun z0 _=>?_) fun Z13=>Or.elim (Z13) (fun Z1=>n8 (Z1) fun _ _ z=>?_) fun Z2=>n8 (Z2) fun _ _ z=>?_
   ·rw [z0]; exact ⟨_,_,hj⟩
   ·cases z
   ·exact ⟨_,_,z⟩
  refine A6 (old x) fun _ _ x'=>?_
  refine A6 (old y) fun _ _ y'=>?_
  exact R.inj k m _ _ _ _ p' x' y' hx hy
 ·intro k l2 fds2 q
  refine Or.elim (at' q) (fun Z0=>f9 (Z0) fun _ z=>?_) fun Z13=>Or.elim (Z13) (fun Z1=>n8 (Z1) fun _ z0 z=>?_) fun Z2=>n8 (Z2) fun _ n2 z=>?_
  ·cases z
  ·cases z
   subst z0
   refine i9 (A.ob) fun dx2 fs2 d1 d2 d3=>?_
   refine ⟨j,C,p,dx2,fs2,hO,hs,A.gp,a4,a5,d1,d2,fun v hv _ _=>?_⟩
   rw [d3] at hv
   cases hv
   exact ht
  ·refine b12 (R.ob.1 k l2 fds2 z) fun _ _ _ _ _ c1 _=>?_
   rw [hO] at c1
   cases c1
   exact absurd rfl n2
 ·intro k fds2 q
  refine Or.elim (at' q) (fun Z0=>f9 (Z0) fun _ z=>?_) fun Z13=>Or.elim (Z13) (fun Z1=>n8 (Z1) fun _ z0 z=>?_) fun Z2=>n8 (Z2) fun _ n2 z=>?_
  ·cases z
  ·cases z
  ·refine a9n (R.ob.2 k fds2 z) fun i0 j0 C0 p0 dx0 fs0 c1 c2 c3 c4=>?_
   exact ⟨i0,j0,C0,p0,dx0,fs0,c1,c2,c3,c4.same A.gg⟩
end
noncomputable def b14 (i:Nat)(m:Str):M Unit:=fun ρ=>match ρ[i]? with
 | some (some (.ob _ fds))=>if (fds.lookup m).isNone=true then some (.ok () ρ) else none
 | _=>none
noncomputable def a8M (i j np:Nat)(fm:List (Str×D)→List (Key×D)→List D→Option MR)(ds:List D):M W:=fun ρ=>match ρ[i]?,ρ[j]? with
 | some (some (.ob l fds)),some (some (.ow true (.dct es)))=>if a2M i j ρ=true∧ds.length + 1=np then match fm fds es ds with
  | some (.ret d fds' es')=>some (.ok (.val d) ((ρ.set i (some (.ob l fds'))).set j (some (.ow true (.dct es')))))
  | none=>none
  else none
 | _,_=>none
noncomputable def a4b (i j:Nat)(m:Str)(np:Nat)(fm:List (Str×D)→List (Key×D)→List D→Option MR)(mr:M (List W)):M W:=M.bind (d8 i) fun _=>M.bind (b14 i m) fun _=>M.bind mr fun ws=>M.bind (U9 ws) fun ds=>a8M i j np fm ds
section
variable {X:Cx}{B:Bs}{k i j:Nat}{x m:Str}{C:Addr}{fns ps:List Str}{fm:List (Str×D)→List (Key×D)→List D→Option MR}{e:Expr}{es:List Expr}{mr:M (List W)}{p1 apos pos:Pos}
theorem b4Q {ξ:XP}{σ:St}{H:Hp}{Q:VK}{np:Nat}(hO:B.O=some (i,j,C))(t:TD C1 B ξ (a4b i j m np fm mr) σ H Q):b49 C m (SpM B.K C np fm) [] E0 (b5F i) (TD K7 B ξ mr) σ H Q:=by
 refine l6 (t) fun G ρ R t=>?_
 obtain ⟨w0,ρ0,e0,t1⟩:=t.step fun r h=>by
  unfold d8 at h
  split at h
  ·cases h; exact ⟨_,_,rfl⟩
  ·cases h
 refine f9 (a2x e0) fun Z1 Z2=>?_; subst Z1; subst Z2
 obtain ⟨u,ρ1,e1,t2⟩:=t1.step fun r h=>by
  unfold b14 at h
  split at h
  ·split at h
   ·cases h; exact ⟨_,_,rfl⟩
   ·cases h
  ·cases h
 unfold b14 at e1
 split at e1
 ·rename_i l fds hi
  split at e1
  ·rename_i hn
   cases e1
   refine a0F (R.ob.1 i l fds hi) fun j' C' p dx fs a1 a2 a3 a4 a5 a6 a7 a8=>?_
   rw [hO] at a1
   cases a1
   refine ⟨_,a2,p,dx,fs,rfl,a6,G7.a7Q a7 (Option.isNone_iff_eq_none.mp hn),?_⟩
   refine (TD.bind (rel:=K7) R t2).mono fun vs H1 Z0=>n6 (Z0) fun G1 ρ1 ws s1 R1 q1 t3=>?_
   obtain ⟨ds,ρ2,e2,r,er,pp⟩:=t3.step fun r h=>a0a h
   refine j7 (a0f R1 q1 e2) fun G2 s2 R2 rl=>?_
   unfold a8M at er
   split at er
   ·rename_i l2 fds2 es2 hi2 hj2
    split at er
    ·rename_i hc
     refine f9 (hc) fun ht hlen=>?_
     split at er
     ·rename_i d fds' es' hfm
      cases er
      refine b5b (a9l hO R2 ht) fun l3 fds3 p3 dx3 fs3 t d3 b1 b2 b3 b4 b5 b6 b7 b8 b9=>?_
      rw [hi2] at b1
      cases b1
      rw [hj2] at b2
      cases b2
      rw [a2] at b3
      cases b3
      refine x6 (R2.ow j true _ hj2) fun t' c1 c2 c3 c4 c5=>?_
      rw [b7] at c1
      cases c1
      rw [List.append_nil]
      exact ⟨G2,p,t,vs,dx3,fs3,fds2,es2,ds,d,fds',es',rfl,hlen,R2.gH,b8,c2,b4,b5,b6,c5,rl,hfm,fun v G' H' A rv=>pp v G' H' (s2.trans A.gg) (R2.b5D hO hi2 hj2 a2 b4 b7 A) rv⟩
     ·cases er
    ·cases er
   ·cases er
  ·cases e1
 ·cases e1
theorem a8p (i j:Nat){pl:Sem Bool}{np:Nat}(O:a2I X.K C fns)(h:b1M X.prog X.w X.K X.mg X.base k C m ps (SpM X.K C np fm))(hr:K5 k X.A)(ha:PDA X B (e::es) mr)(hO:autoParam (B.O=some (i,j,C)) m6._auto_1)(hN:autoParam (X.N[i]?=some x) m6._auto_1)(hv:autoParam (Vis X.env.scope x) au0._auto_1)(hd:autoParam ((x == ("__debug__":Str))=false) Y0._auto_1) (hcd:autoParam ((x == ("__classdict__":Str))=false) Y0._auto_1) (hK:autoParam (X.K=B.K) m6._auto_1)
  (hst:autoParam (starEach (e::es) X.env=(false,eval e X.env)::starEach es X.env) m6._auto_1) (hpl:autoParam ((backTo pos (starEach es X.env)).any (·.1)=false) m6._auto_1)
  (ht:autoParam (eval (.Call (.Attribute (.Name x p1) m apos) (e::es) [] pos) X.env=(do
   let ov ← eval (.Name x p1) X.env
   standAt apos.atName
   let (f,first) ← holding [ov] (getMethod ov m pl)
   callWith pos f first (backTo pos (starEach (e::es) X.env)) (backToKw pos (keywordEach [] X.env)))) m6._auto_1):
  PD X B (.Call (.Attribute (.Name x p1) m apos) (e::es) [] pos) (a4b i j m np fm mr):=.mk fun ξ=>by
 refine i9 (h) fun f fd F b M=>?_
 refine (b4l (X:=rz X ξ) (pl:=pl) (a0u (X:=rz X ξ) (i:=i) (pos:=p1) hN hv hd hcd) O.cls M F hr b .nil b2D (ha.ap ξ) hst hpl ht).imp fun σ H Q t=>?_
 have t':=b4Q hO t
 rw [← hK] at t'
 exact t'
end
end L3
set_option Elab.async false
set_option linter.all false
set_option maxRecDepth 100000
set_option maxHeartbeats 4000000
namespace L3
open PySem PySem.Spec PyProof.Rows L2
noncomputable abbrev Made:=List (Str×D)×List (Key×D)
structure b1n (K:PySem.W.Frag) (C:Addr) (G H:Hp) (p t:Addr) (G' H':Hp) (fds:List (Str×D)) (es:List (Key×D)):Prop where
 keep:i6 (minus H [p]) H'
 gg:i6 G G'
 gH:i6 G' H'
 gnew:∀ q o,G' q=some o→G q=some o∨H q=none
 dom:∀ q,H' q=none→H q=none
 ob:∃ dx fs,H' p=some (.ins C dx fs)∧G7 K G' fs fds∧fs.lookup N3=some (.ref t)
 gp:G' p=none
 gt:G' t=none
 new:H t=none
 tb:A5 K G' H' t (.dct es)
noncomputable def SpI (K:PySem.W.Frag)(C:Addr)(np:Nat)(fm:List D→Option Made):Sp:=fun vs H Q E=>∃ G p rest dx ds r,vs=.ref p::rest∧ds.length + 1=np∧i6 G H∧G p=none∧H p=some (.ins C dx [])∧t6 K G rest ds∧fm ds=some r∧∀ G' H' t,b1n K C G H p t G' H' r.1 r.2→Q .w6 H'
theorem SpI.imp {K:PySem.W.Frag}{C:Addr}{np:Nat}{fm fm':List D→Option Made}(h:∀ ds r,fm ds=some r→fm' ds=some r):∀ vs H Q E,SpI K C np fm vs H Q E→SpI K C np fm' vs H Q E:=by
 rintro vs H Q E ⟨G,p,rest,dx,ds,r,a1,a2,a3,a4,a5,a6,a7,a8⟩
 exact ⟨G,p,rest,dx,ds,r,a1,a2,a3,a4,a5,a6,h _ _ a7,a8⟩
noncomputable def outI (j:Nat):SR→Option Made
 | .nx ρ=>match a97 j .w6 ρ with
  | some (.ret _ fds es)=>some (fds,es)
  | none=>none
 | _=>none
noncomputable def a7g (m:SM)(n j:Nat)(ds:List D):Option Made:=(m (U0 n [] ds)).bind (outI j)
section
variable {P:Program}{w:World}{K:PySem.W.Frag}{mg:Str→Option Value}{base:Heap}
theorem b78 {x qual g:Str}{st:Stmt}{f C:Addr}{fd:FuncData}{N ps:List Str}{k:Nat}(j:Nat){m:SM}(F:Fun K x qual st f fd)(S:v8 N ps (j9 st))(hj:N[j]?=some g)(hg:¬ Vis (j9 st) g)(hps:ps.length≤j)(hp0:0 < ps.length)
  (hbody:∀ (cdv:Value) (A:Around) (outer:List Env) (s:Shared) (H:Hp) (E:XK) (H0 HK G0:Hp) (L:Nat→Option Addr),L j=none→K5 k (A.deeper (envOfC qual (j9 st) s.heap.objs.size f cdv))→
   a2P (a4C X4 P w K mg base N qual (j9 st) f cdv A outer s H E) ⟨K,H0,HK,G0,L,some (0,j,C)⟩ (K3 st) m):B7 P w K mg base X4 (k + 1) f fd ps (SpI K C ps.length (a7g m N.length j)):=by
 have hjn:j < N.length:=(List.getElem?_eq_some_iff.mp hj).1
 have hj0:j≠0:=by omega
 refine F.ok S (fun vs H Q E h=>?_) (fun cdv A outer s H vs Q E hr h=>?_)
 ·refine b5l (h) fun G p rest dx ds r Z1 a2 a3 a4 a5 a6 a7 a8=>?_; subst Z1
  rw [List.length_cons,a6.len,a2]
 refine b5l (h) fun G p rest dx ds r Z1 a2 a3 a4 a5 a6 hf q=>?_; subst Z1
 have hL:(fun i:Nat=>if i=0 then some p else none) j=none:=if_neg hj0
 refine ⟨_,((hbody cdv A outer s H E H (minus H [p]) G (fun i=>if i=0 then some p else none) hL hr).ap fun _ _ _=>False).U6 (fun e s z=>?_),?_⟩
 ·refine a0W (z) fun _ _ _ _ _ _ z=>?_
  exact z
 have R0:=a5P (N:=N) (C:=C) (j:=j) (L:=fun i=>if i=0 then some p else none) (fs:=[]) (fds:=[]) (G9 H [p]) (a0g (by simp)) rfl a3 a4 a5 .nil a6 (by omega) (by omega)
 unfold a7g at hf
 cases hs:m (U0 N.length [] ds) with
 | none=>rw [hs] at hf; cases hf
 | some sr=>
  rw [hs] at hf
  have hf':outI j sr=some r:=hf
  refine ⟨G,_,R0,sr,hs,?_⟩
  cases sr with
  | nx ρ'=>
   refine fun σ' G' H' s' R'=>?_
   unfold outI at hf'
   dsimp only at hf'
   split at hf'
   ·rename_i d0 fds' es' e
    cases hf'
    unfold a97 at e
    split at e
    ·rename_i fds2 es2 h0 hj2
     split at e
     ·rename_i hsome
      cases e
      refine g8 (Option.isSome_iff_exists.mp hsome) fun dd hdd=>?_
      refine a0F (R'.ob.1 0 true fds' h0) fun j' C' p' dx' fs' b1 b2 b3 b4 b5 b6 b7 b8=>?_
      cases b1
      have ep:some p=some p':=b5.1 rfl
      cases ep
      refine c6 (G7.look b7 hdd) fun v hv _=>?_
      have ev:=b8 v hv _ hj2
      refine x6 (R'.ow j true _ hj2) fun t' c1 c2 c3 c4 c5=>?_
      rw [ev] at c1
      cases c1
      have hn:H t'=none:=by
       refine Or.elim (c4) (fun z=>?_) fun Z1=>n8 (Z1) fun _ _ z=>?_
       ·have z':(if j=0 then some p else none)=some t':=z
        rw [if_neg hj0] at z'
        cases z'
       ·exact z
      exact q G' H' t' ⟨R'.keep,R'.g0,R'.gH,R'.gnew,R'.dom,⟨dx',fs',b6,b7,hv⟩,b3,c2,hn,c5⟩
     ·cases e
    ·cases e
   ·cases hf'
  | rt w' ρ'=>cases hf'
  | ex x ρ'=>cases hf'
  | bk ρ'=>cases hf'
  | ct ρ'=>cases hf'
end
noncomputable def b68 (P:Program)(w:World)(K:PySem.W.Frag)(mg:Str→Option Value)(base:Heap)(k:Nat)(C:Addr)(ps:List Str)(sp:Sp):Prop:=
 ∃ (f:Addr) (fd:FuncData),B7 P w K mg base X4 k f fd ps sp∧Binds K fd ps []∧Mk K C f
section
variable {B:Bs}{G H G' H':Hp}{σ:St}{ρ:k9}
theorem RS.grow (R:RS B G H σ ρ)(s:i6 H H')(gg:i6 G G')(gH:i6 G' H')(gnew:∀ q o,G' q=some o→G q=some o∨H q=none)(dom:∀ q,H' q=none→H q=none):RS B G' H' σ ρ:=by
 have notG:∀ b o,H b=some o→G b=none→G' b=none:=fun b o e g=>by
  cases q:G' b with
  | none=>rfl
  | some u=>
   refine Or.elim (gnew b u q) (fun z=>?_) fun z=>?_
   ·rw [g] at z; cases z
   ·rw [e] at z; cases z
 refine ⟨R.hk,R.keep.trans s,R.g0.trans gg,gH,fun b u q=>?_,fun b q=>R.dom b (dom b q),R.len,fun k e q=>?_,fun k l e q=>?_,R.inj,R.fz.same gg,R.ob.gh gg (fun p C dx fs e g=>notG p _ e g) fun p C dx fs e _ _=>s p _ e⟩
 ·refine Or.elim (gnew b u q) (fun z=>?_) fun z=>?_
  ·exact R.gnew b u z
  ·exact .inr (R.dom b z)
 ·refine c6 (R.sh k e q) fun v h1 h2=>?_
  exact ⟨v,h1,h2.same gg⟩
 ·refine x6 (R.ow k l e q) fun p c1 c2 c3 c4 c5=>?_
  refine g8 (c5.some) fun o ho=>?_
  exact ⟨p,c1,notG p o ho c2,c3,c4,c5.same gg ((s p o ho).trans ho.symm)⟩
theorem RS.b7B {i j:Nat}{C p dx:Addr}{fs:List (Str×V)}{fds:List (Str×D)}(R:RS B G H σ ρ)(hO:B.O=some (i,j,C))(hi:i < ρ.length)(hij:i≠j)(hj:∀ c,ρ[j]?≠some (some c))(g:G p=none)(h0:B.H0 p=none)(hp:H p=some (.ins C dx fs))(rf:G7 B.K G fs fds):
  RS B G H (σ.set i (some (.ref p))) (ρ.set i (some (.ob false fds))):=by
 have hs:i < σ.length:=by rw [R.len]; exact hi
 have ne:∀ {k:Nat} {l:Bool} {d:D},(ρ.set i (some (.ob false fds)))[k]?=some (some (.ow l d))→i≠k∧ρ[k]?=some (some (.ow l d)):=fun {k l d} e=>by
  refine Or.elim (M8 e) (fun Z0=>f9 (Z0) fun _ z=>?_) fun z=>?_
  ·cases z
  ·exact z
 refine ⟨R.hk,R.keep,R.g0,R.gH,R.gnew,R.dom,by simp [R.len],fun k d q=>?_,fun k l d q=>?_,fun k m l d l' d' p' a b x y=>?_,R.fz.a7s (by intro _ h; cases h),fun k l fds' q=>?_,fun k fds' q=>?_⟩
 ·refine Or.elim (M8 q) (fun Z0=>f9 (Z0) fun _ z=>?_) fun Z1=>f9 (Z1) fun n z=>?_
  ·cases z
  ·rw [List.getElem?_set_ne n]; exact R.sh k d z
 ·refine f9 (ne q) fun n z=>?_
  rw [List.getElem?_set_ne n]; exact R.ow k l d z
 ·refine f9 (ne a) fun n1 z1=>?_
  refine f9 (ne b) fun n2 z2=>?_
  rw [List.getElem?_set_ne n1] at x
  rw [List.getElem?_set_ne n2] at y
  exact R.inj k m l d l' d' p' z1 z2 x y
 ·rcases M8 q with ⟨rfl,z⟩ | ⟨n,z⟩
  ·cases z
   refine ⟨j,C,p,dx,fs,hO,by rw [List.getElem?_set_self hs],g,?_,⟨fun z=>(by cases z),fun _=>h0⟩,hp,rf,fun v hv d hd=>?_⟩
   ·cases hq:B.HK p with
    | none=>rfl
    | some ob=>rw [R.hk p ob hq] at h0; cases h0
   ·refine f9 (ne hd) fun _ z=>?_
    exact absurd z (hj _)
  ·refine b12 (R.ob.1 k l fds' z) fun _ _ _ _ _ c1 _=>?_
   rw [hO] at c1
   cases c1
   exact absurd rfl n
 ·refine Or.elim (M8 q) (fun Z0=>f9 (Z0) fun _ z=>?_) fun Z1=>f9 (Z1) fun n z=>?_
  ·cases z
  ·rw [List.getElem?_set_ne n]; exact R.ob.2 k fds' z
theorem RS.made {i j:Nat}{C p t dx:Addr}{fds:List (Str×D)}{es:List (Key×D)}(R:RS B G H σ ρ)(hO:B.O=some (i,j,C))(hL:B.L j=none)(hi:i < ρ.length)(hjl:j < ρ.length)(hij:i≠j)(hp:H p=none)(hdx:H dx=none)(hne:dx≠p)
  (A:b1n B.K C G (upd (upd H dx (.own p)) p (.ins C dx [])) p t G' H' fds es):RS B G' H' ((σ.set i (some (.ref p))).set j (some (.ref t))) ((ρ.set i (some (.ob false fds))).set j (some (.ow true (.dct es)))):=by
 have sH:i6 H H':=fun b o e=>A.keep b o (by
  rw [P8 (by simp; exact t9 e hp),j3 (t9 e hp),j3 (t9 e hdx)]
  exact e)
 have hH:∀ q,(upd (upd H dx (.own p)) p (.ins C dx [])) q=none→H q=none:=fun q e=>by
  by_cases z:q=p
  ·subst z; exact hp
  ·rw [j3 z] at e
   by_cases z2:q=dx
   ·subst z2; exact hdx
   ·rw [j3 z2] at e; exact e
 have R1:RS B G' H' σ ρ:=R.grow sH A.gg A.gH (fun q o e=>(A.gnew q o e).imp id (hH q)) fun q e=>hH q (A.dom q e)
 have R2:=R1.forget (i:=j)
 refine i9 (A.ob) fun dx2 fs b1 b2 b3=>?_
 have hjn:∀ c,(ρ.set j none)[j]?≠some (some c):=fun c e=>by rw [List.getElem?_set_self hjl] at e; cases e
 have R3:=R2.b7B (p:=p) (fds:=fds) hO (by simpa using hi) hij hjn A.gp (R.dom p hp) b1 b2
 have tp:t≠p:=(W0 A.tb b1).symm
 have ht0:H t=none:=hH t A.new
 have R4:=R3.b5t (t:=t) (d:=.dct es) hO hL (by simpa using hjl) ⟨t,rfl,A.gt,R.dom t ht0,A.tb,fun k l e he z=>?_⟩ fun l2 fds2 p2 dx3 fs2 c1 c2 c3 v hv=>?_
 ·have e1:((ρ.set j none).set i (some (L3.C.ob false fds))).set j (some (.ow true (.dct es)))=(ρ.set i (some (L3.C.ob false fds))).set j (some (.ow true (.dct es))):=by
   rw [List.set_comm (l:=ρ) _ _ (Ne.symm hij),List.set_set]
  rw [e1] at R4
  exact R4
 ·refine Or.elim (M8 he) (fun Z0=>f9 (Z0) fun _ z0=>?_) fun Z1=>f9 (Z1) fun n z0=>?_
  ·cases z0
  ·rw [List.getElem?_set_ne n] at z
   refine Or.elim (M8 z0) (fun Z0=>f9 (Z0) fun _ z1=>?_) fun Z1=>f9 (Z1) fun n1 z1=>?_
   ·cases z1
   ·refine x6 (R.ow k l e z1) fun q0 d1 d2 d3 d4 d5=>?_
    refine g8 (d5.some) fun o ho=>?_
    rw [z] at d1
    cases d1
    rw [ht0] at ho
    cases ho
 ·rw [List.getElem?_set_self (by rw [R.len]; exact hi)] at c2
  cases c2
  rw [b1] at c3
  cases c3
  rw [b3] at hv
  exact (Option.some.inj hv).symm
end
noncomputable def a68 (i j np:Nat)(fm:List D→Option Made)(mr:M (List W)):SM:=C3 mr fun ws=>C3 (U9 ws) fun ds ρ=>match fm ds with
 | some r=>grd (i < ρ.length∧j < ρ.length∧i≠j∧ds.length + 1=np) (some (.nx ((ρ.set i (some (.ob false r.1))).set j (some (.ow true (.dct r.2))))))
 | none=>none
section
variable {X:Cx}{B:Bs}{k i j:Nat}{y x g:Str}{C:Addr}{fns ps:List Str}{fm:List D→Option Made}{e:Expr}{es:List Expr}{mr:M (List W)}{p py pos spos:Pos}
theorem b6i (i j:Nat){np:Nat}(h:b68 X.prog X.w X.K X.mg X.base k C ps (SpI X.K C np fm))(hm:X.mg x=some (.ref C))(hr:K5 (k + 1) X.A)(ha:PDA X B (e::es) mr)(hL:B.L j=none)(hgv:¬ Vis X.env.scope g)(hNd:X.N.Nodup)(hj:autoParam (X.N[j]?=some g) m6._auto_1)(hi:autoParam (X.N[i]?=some y) m6._auto_1)(hy:autoParam (Loc X.env.scope y) au0._auto_1)(hO:autoParam (B.O=some (i,j,C)) m6._auto_1)(hg:autoParam (Gl X x) m6._auto_1)(hK:autoParam (X.K=B.K) m6._auto_1)(hdb:autoParam ((x == ("__debug__":Str))=false) Y0._auto_1)
  (he:autoParam (starEach (e::es) X.env=(false,eval e X.env)::starEach es X.env) m6._auto_1) (hpl:autoParam ((backTo pos (starEach es X.env)).any (·.1)=false) m6._auto_1) (hs:autoParam (swapsWith (.Call (.Name x p) (e::es) [] pos) (some (.Name y py)) spos.line X.env=pure false) m6._auto_1) (hf:autoParam (X.fn y=true∨X.env.scope.names.lookup y=some .local) au0._auto_1):
  PSD X B (.Assign [.Name y py] (.Call (.Name x p) (e::es) [] pos) spos) (a68 i j np fm mr):=.mk fun ξ=>by
 refine i9 (h) fun f fd F b M=>?_
 refine (a66 (j:=j) (g:=g) (b1K (X:=rz X ξ) hNd hi hy (b3V (X:=rz X ξ) M F hr hg hm b .nil b2D (ha.ap ξ) hdb he hpl) hs hf) hj hgv).imp fun Dn σ H t=>?_
 refine l6 (t) fun G ρ R t=>?_
 refine (SD.step (rel:=K7) R t).mono fun vs H1 Z0=>n6 (Z0) fun G1 ρ1 ws s1 R1 q1 t2=>?_
 obtain ⟨ds,ρ2,e2,r,er,pp⟩:=SD.quiet t2 fun r h=>a0a h
 refine j7 (a0f R1 q1 e2) fun G2 s2 R2 rl=>?_
 dsimp only at er
 split at er
 ·rename_i md hfm
  refine f9 (z7 er) fun Z1 er=>?_; refine a1w (Z1) fun z1 z2 z3 z4=>?_
  cases er
  intro q dx hq hdx hne
  have sN:i6 H1 (upd (upd H1 dx (.own q)) q (.ins C dx [])):=(V1 hdx _).trans (V1 (by rw [j3 (Ne.symm hne)]; exact hq) _)
  rw [List.append_nil]
  refine ⟨G2,q,vs,dx,ds,md,rfl,z4,R2.gH.trans sN,R2.gH.free hq,l9,by rw [hK]; exact rl,hfm,fun G' H' t A=>⟨rfl,?_⟩⟩
  rw [hK] at A
  exact ⟨some (.ref t),pp _ G' H' (s2.trans A.gg) (R2.made hO hL z1 z2 z3 hq hdx hne A)⟩
 ·cases er
end
noncomputable def a6e (K:PySem.W.Frag)(C:Addr)(m qual:Str)(st:Stmt)(ps:List Str):Prop:=∃ (f:Addr) (fd:FuncData),Fun K m qual st f fd∧(∀ us:List Value,us.length=ps.length→bindArgs fd ⟨us,[]⟩=pure (ps.zip us))∧PySem.W.findIn K (.ref C) m=some (some (.ref f))∧PySem.W.isFn K (.ref f)=true
theorem a3V {K:PySem.W.Frag}{C:Addr}{m qual:Str}{st:Stmt}{ps:List Str}{f:Addr}{od an:Option Addr}{sl:Array (Option Value)}{oc kV dc pm cd ct:Value}
  (a:PySem.W.findIn K (.ref C) m=some (some (.ref f))) (l:K.lookup f=some ⟨oc,od,.func (PySem.W.fnOf m qual (a0n st) (K3 st) (j9 st) .none kV dc pm an cd ct),sl⟩) (c:PySem.W.codeIn K cd qual=true) (k:PySem.W.keepIn K (.ref f)=true) (n:PySem.W.isFn K (.ref f)=true)
  (b:∀ (kV doc pm:Value) (an:Option Addr) (cdv ct:Value) (us:List Value),us.length=ps.length→bindArgs (PySem.W.fnOf m qual (a0n st) (K3 st) (j9 st) .none kV doc pm an cdv ct) ⟨us,[]⟩=pure (ps.zip us)):a6e K C m qual st ps:=
 ⟨f,_,b2e (st:=st) l c k,fun us hl=>b kV dc pm an cd ct us hl,a,n⟩
theorem a6e.has {P:Program}{w:World}{K:PySem.W.Frag}{mg:Str→Option Value}{base:Heap}{k:Nat}{C:Addr}{m qual:Str}{st:Stmt}{ps:List Str}{sp:Sp}(D:a6e K C m qual st ps)(h:∀ f fd,Fun K m qual st f fd→B7 P w K mg base X4 k f fd ps sp):b1M P w K mg base k C m ps sp:=by
 refine R8 (D) fun f fd F b a n=>?_
 exact ⟨f,fd,h f fd F,Binds.all b,⟨a,n,F.kp⟩⟩
theorem a6e.b9P {P:Program}{w:World}{K:PySem.W.Frag}{mg:Str→Option Value}{base:Heap}{k:Nat}{C:Addr}{qual:Str}{st:Stmt}{ps:List Str}{sp:Sp}(D:a6e K C "__init__" qual st ps) (hm:PySem.W.makesIn K C=true) (hk:PySem.W.keepIn K (.ref C)=true) (h:∀ f fd,Fun K "__init__" qual st f fd→B7 P w K mg base X4 k f fd ps sp):b68 P w K mg base k C ps sp:=by
 refine R8 (D) fun f fd F b a n=>?_
 exact ⟨f,fd,h f fd F,Binds.all b,⟨hm,a,n,hk⟩⟩
end L3
namespace L3
open PySem PySem.Spec PyProof.Rows L2
theorem a4a {K:PySem.W.Frag}{G H:Hp}:∀ {ms:List Bool} {vs:List V} {ds:List D} {ps:List Addr},P1 K G H ms vs ds ps→ms.all (!·)=true→ps=[]∧t6 K G vs ds
 | _,_,_,_,.nil,_=>⟨rfl,.nil⟩
 | _,_,_,_,.sh h r,e=>by
  refine f9 (a4a r (by simpa using e)) fun a b=>?_
  exact ⟨a,.cons h b⟩
 | _,_,_,_,.ln _ _ _ _,e=>by simp at e
theorem a4F:∀ {ms:List Bool} {ρ:k9} {fin:List D},Y4 ms ρ=some fin→ms.all (!·)=true→fin=[]
 | [],_,_,e,_=>by cases e; rfl
 | false::ms,[],_,e,_=>by cases e
 | false::ms,_::ρ,_,e,h=>a4F (ms:=ms) (ρ:=ρ) e (by simpa using h)
 | true::_,_,_,_,h=>by simp at h
theorem a38:∀ {ms:List Bool} {ps:List Addr} {i:Nat},ms.all (!·)=true→M6 ms ps i=none
 | [],_,_,_=>rfl
 | false::_,_,0,_=>rfl
 | false::ms,ps,i + 1,h=>a38 (ms:=ms) (ps:=ps) (i:=i) (by simpa using h)
 | true::_,_,_,h=>by simp at h
section
variable {P:Program}{w:World}{K:PySem.W.Frag}{mg:Str→Option Value}{base:Heap}
theorem RS.b7K {H0 HK G0 G H:Hp}{L:Nat→Option Addr}{σ:St}{ρ:k9}(O:Option (Nat×Nat×Addr))(R:RS ⟨K,H0,HK,G0,L,none⟩ G H σ ρ)(hno:∀ (i:Nat) c,ρ[i]?=some (some c)→isO c=false):RS ⟨K,H0,HK,G0,L,O⟩ G H σ ρ:=by
 refine ⟨R.hk,R.keep,R.g0,R.gH,R.gnew,R.dom,R.len,R.sh,fun i l d q=>?_,R.inj,R.fz,fun i l fds q=>?_,fun i fds q=>?_⟩
 ·refine x6 (R.ow i l d q) fun p a1 a2 a3 a4 a5=>?_
  refine ⟨p,a1,a2,a3,?_,a5⟩
  cases l with
  | false=>exact a4
  | true=>
   refine Or.elim (a4) (fun z=>?_) fun Z1=>f9 (Z1) fun z _=>?_
   ·exact .inl z
   ·cases z
 ·have:=hno i _ q; cases this
 ·have:=hno i _ q; cases this
theorem b5V {x:Str}{st:Stmt}{f:Addr}{fd:FuncData}{N ps:List Str}{ms:List Bool}{k:Nat}{m:SM}(O:Nat×Nat×Addr)(F:Fun K x x st f fd)(S:v8 N ps (j9 st))(hm:ms.length=ps.length)(hms:ms.all (!·)=true)
  (hbody:∀ (cdv:Value) (A:Around) (outer:List Env) (s:Shared) (H:Hp) (E:XK) (H0 HK G0:Hp) (L:Nat→Option Addr),(∀ i,L i=none)→K5 k (A.deeper (envOfC x (j9 st) s.heap.objs.size f cdv))→
   a2P (a4C X4 P w K mg base N x (j9 st) f cdv A outer s H E) ⟨K,H0,HK,G0,L,some O⟩ (K3 st) m):B7 P w K mg base X4 (k + 1) f fd ps (Q4 K ms (z9 m N.length ms)):=by
 have hpl:ps.length≤N.length:=by have:=congrArg List.length S.pre; rw [List.length_take] at this; omega
 refine F.ok S (fun vs H Q E h=>?_) (fun cdv A outer s H vs Q E hr h=>?_)
 ·refine a0W (h) fun G ds pp r _ a _=>?_
  rw [a.len.1,hm]
 refine a3t (h) fun G ds pp r g a hf q=>?_
 refine ⟨_,((hbody cdv A outer s H E H (minus H pp) G (M6 ms pp) (fun i=>a38 hms) hr).ap fun _ _ _=>False).U6 (fun e s z=>?_),?_⟩
 ·refine a0W (z) fun _ _ _ _ _ _ z=>?_
  exact z
 have R0:=RS.b7K (some O) (a4o (N:=N) g a (by rw [a.len.1,hm]; exact hpl)) fun i c e=>by
  refine c6 (N9 a (I8 e)) fun v e1 h1=>?_
  rcases h1 with ⟨d',rfl,h⟩ | ⟨p,d',rfl,_⟩ <;> rfl
 refine f9 (a4a a hms) fun epp _=>?_
 unfold z9 at hf
 cases hs:m (A1 N.length ms ds) with
 | none=>rw [hs] at hf; cases hf
 | some sr=>
  rw [hs] at hf
  have hf':a8u ms sr=some r:=hf
  refine ⟨G,A1 N.length ms ds,R0,sr,hs,?_⟩
  have fin:∀ {ρ':k9} {σ':St} {G' H':Hp} {fins:List D},Y4 ms ρ'=some fins→RS ⟨K,H,minus H pp,G,M6 ms pp,some O⟩ G' H' σ' ρ'→After K G H pp G' H' fins:=fun {ρ' σ' G' H' fins} e R'=>
   ⟨R'.keep,R'.g0,R'.gH,R'.gnew,R'.dom,by rw [a4F e hms,epp]; exact .nil⟩
  cases sr with
  | nx ρ'=>
   refine c6 (Option.map_eq_some_iff.mp hf') fun fins e Z1=>?_; subst Z1
   exact fun σ' G' H' s' R'=>q .w6 G' H' (fin e R') .w6
  | rt w' ρ'=>
   cases w' with
   | slot i=>cases hf'
   | val d=>
    refine c6 (Option.map_eq_some_iff.mp hf') fun fins e Z1=>?_; subst Z1
    exact fun v σ' G' H' s' R' rw'=>q v G' H' (fin e R') rw'
   | own d=>
    refine c6 (Option.map_eq_some_iff.mp hf') fun fins e Z1=>?_; subst Z1
    exact fun v σ' G' H' s' R' rw'=>q v G' H' (fin e R') (let ⟨p,a1,a2,a3,a4,_⟩:=rw'; ⟨p,a1,a2,a3,a4⟩)
  | ex x ρ'=>
   refine c6 (Option.map_eq_some_iff.mp hf') fun fins e Z1=>?_; subst Z1
   exact q.elim
  | bk ρ'=>cases hf'
  | ct ρ'=>cases hf'
end
end L3
set_option Elab.async false
set_option linter.all false
set_option maxRecDepth 100000
set_option maxHeartbeats 4000000
namespace L3
open PySem PySem.Spec PyProof.Rows L2
noncomputable def lrR:List V→Hp→VK→Prop:=fun vs H Q=>∃ i j:Int,vs=[.int i,.int j]∧(-(2 ^ 62)≤i∧i < 2 ^ 62∧-(2 ^ 62)≤j∧j < 2 ^ 62)∧(j - i).toNat≤1000000∧∀ l,H l=none→Q (.ref l) (upd H l (.lst ((List.range (j - i).toNat).map fun k=>V.int (i + ((k:Nat):Int)))))
theorem b1C {i:Int}{n:Nat}{acc:Array Value}(h:ItemsOf (fun k v=>∃ t,v=Value.int (i + k * 1) t) acc n):Vals ((List.range n).map fun k=>V.int (i + ((k:Nat):Int))) acc.toList:=by
 have hl:acc.toList.length=n:=by rw [Array.length_toList,h.1]
 have:∀ (m:Nat),m≤n→Vals ((List.range m).map fun k=>V.int (i + ((k:Nat):Int))) (acc.toList.take m):=fun m=>by
  induction m with
  | zero=>intro _; exact .nil
  | succ m ih=>
   intro hm
   have hlt:m < acc.toList.length:=by omega
   rw [List.range_succ,List.map_append,List.take_add_one,List.getElem?_eq_getElem hlt]
   refine (ih (by omega)).append (.cons ?_ .nil)
   have ha:acc[m]?=some (acc.toList[m]):=by rw [← Array.getElem?_toList,List.getElem?_eq_getElem hlt]
   refine g8 (h.2 m _ ha) fun t e=>?_
   rw [e,Int.mul_one]
   exact ⟨t,rfl⟩
 have q:=this n (Nat.le_refl _)
 rwa [List.take_of_length_le (by omega)] at q
section
variable {X:Cx}{a b:Expr}{t:TA}{p pos p2 pos2:Pos}
theorem a8D (hc:X.calm=true)(hg1:Gl X "list") (hm1:X.mg "list"=none) (hg2:Gl X "range") (hm2:X.mg "range"=none) (ha:PA X [a,b] t)
  (he1:starEach [Expr.Call (.Name "range" p2) [a,b] [] pos2] X.env=(false,eval (Expr.Call (.Name "range" p2) [a,b] [] pos2) X.env)::starEach [] X.env) (hpl1:(backTo pos (starEach [] X.env)).any (·.1)=false)
  (hs:starEach [a,b] X.env=[(false,eval a X.env),(false,eval b X.env)]) (hs2:starEach [b] X.env=[(false,eval b X.env)]):
  PE X (.Call (.Name "list" p) [.Call (.Name "range" p2) [a,b] [] pos2] [] pos) (tCB lrR t):=by
 intro pins s σ H Q I h
 refine wpAny_Call_Name_kw (V3 I hg1 hm1 PyProof.Rows.boot_list ?_ (by decide) (by decide))
 refine PyProof.Rows.callWith_type1 ?_ he1 hpl1
 rw [he1]
 show wpAny _ _ (spliced ((false,eval (Expr.Call (.Name "range" p2) [a,b] [] pos2) X.env)::backTo pos (starEach [] X.env))) _ _ s
 refine Calls.spliced_cons (wpAny_Call_Name_kw (V3 I hg2 hm2 boot_range ?_ (by decide) (by decide)))
 refine PyProof.Rows.callWith_type1 (E6 (ha pos2 pins s σ H _ I h) fun us s1 ⟨vs,H1,I1,r1,i,j,ev,⟨q1,q2,q3,q4⟩,hz,q⟩=>?_) (by rw [hs,hs2]) (by rw [hs2]; rfl)
 subst ev
 cases r1 with
 | cons r rr=>
  cases rr with
  | cons r' rr=>
   cases rr
   refine g8 (r) fun t Z1=>?_; subst Z1
   refine g8 (r') fun t' Z1=>?_; subst Z1
   refine call_range_2 (Calls.spliced_nil ?_)
   refine call_list_range (n:=(j - i).toNat) (I1.ok.hd hc) (IsRange.new ..) (small_one q1 q2 q3 q4) (by rw [rangeSize_one]; split <;> omega) (by omega) fun h' tk acc c kp hS hacc=>?_
   have kp1:∀ b o,s1.heap.get? b=some o→h'.get? b=some o:=fun b o e=>kp b o (Heap.get?_push_of_some _ e)
   have hv:=b1C hacc
   refine ⟨.ref _,_,I1.laid (t':=tk) (o:=.lst ((List.range (j - i).toNat).map fun k=>V.int (i + ((k:Nat):Int)))) kp1 (Nat.le_of_lt (by rw [Heap.size_push]; exact Nat.lt_succ_self _)) ⟨?_,acc.toList,c,hv,by simpa using hS⟩,rfl,q _ (I1.hok.fresh (Nat.le_of_lt (by rw [Heap.size_push]; exact Nat.lt_succ_self _)))⟩
   rw [List.length_map,List.length_range,sizeLine_eq]
   omega
end
noncomputable def a1b:List D→Option W
 | [.int i,.int j]=>grd (-(2 ^ 62)≤i∧i < 2 ^ 62∧-(2 ^ 62)≤j∧j < 2 ^ 62∧(j - i).toNat≤1000000) (some (.own (.lst ((List.range (j - i).toNat).map fun k=>D.int (i + ((k:Nat):Int))))))
 | _=>none
section
variable {X:Cx}{B:Bs}{a b:Expr}{mr:M (List W)}{p pos p2 pos2:Pos}
theorem a52:a13 B lrR a1b:=by
 intro G H σ ρ xs ds w Q R h ev pp
 match ds,ev with
 | [.int i,.int j],ev=>
  refine f9 (z7 ev) fun Z1 ev=>?_; refine a1t (Z1) fun z1 z2 z3 z4 z5=>?_
  cases ev
  refine i9 (b1J h) fun x y Z1 hx hy=>?_; subst Z1
  refine ⟨i,j,by rw [hx.int,hy.int],⟨z1,z2,z3,z4⟩,z5,fun l hl=>?_⟩
  have r:t6 B.K G ((List.range (j - i).toNat).map fun k=>V.int (i + ((k:Nat):Int))) ((List.range (j - i).toNat).map fun k=>D.int (i + ((k:Nat):Int))):=by
   have:=t6.a3L (K:=B.K) (G:=G) ((List.range (j - i).toNat).map fun k=>i + ((k:Nat):Int))
   rwa [List.map_map,List.map_map] at this
  refine f9 (R.a1Q hl r) fun R' w'=>?_
  exact pp _ G _ (i6.refl _) R' w'
theorem b0O (hc:X.calm=true)(hm1:X.mg "list"=none) (hm2:X.mg "range"=none) (ha:PDA X B [a,b] mr) (hg1:autoParam (Gl X "list") m6._auto_1) (hg2:autoParam (Gl X "range") m6._auto_1)
  (he1:autoParam (starEach [Expr.Call (.Name "range" p2) [a,b] [] pos2] X.env=(false,eval (Expr.Call (.Name "range" p2) [a,b] [] pos2) X.env)::starEach [] X.env) m6._auto_1) (hpl1:autoParam ((backTo pos (starEach [] X.env)).any (·.1)=false) m6._auto_1)
  (hs:autoParam (starEach [a,b] X.env=[(false,eval a X.env),(false,eval b X.env)]) m6._auto_1) (hs2:autoParam (starEach [b] X.env=[(false,eval b X.env)]) m6._auto_1):
  PD X B (.Call (.Name "list" p) [.Call (.Name "range" p2) [a,b] [] pos2] [] pos) (E3 a1b mr):=.mk fun ξ=>
 (a8D (X:=rz X ξ) hc hg1 hm1 hg2 hm2 (ha.ap ξ) he1 hpl1 hs hs2).imp fun _ _ _ t=>a7T a52 t
end
end L3
set_option Elab.async false
set_option linter.all false
set_option maxRecDepth 100000
set_option maxHeartbeats 4000000
set_option Elab.async false
set_option linter.all false
set_option maxRecDepth 100000
set_option maxHeartbeats 4000000
set_option Elab.async false
set_option linter.all false
set_option maxRecDepth 100000
set_option maxHeartbeats 4000000
set_option Elab.async false
set_option linter.all false
set_option maxRecDepth 100000
set_option maxHeartbeats 4000000
set_option Elab.async false
set_option linter.all false
set_option maxRecDepth 100000
set_option maxHeartbeats 4000000
set_option Elab.async false
set_option linter.all false
set_option maxRecDepth 100000
set_option maxHeartbeats 4000000
set_option Elab.async false
set_option linter.all false
set_option maxRecDepth 100000
set_option maxHeartbeats 4000000
namespace K21
open PySem L2 L3
noncomputable def top (i:Nat):Stmt:=PySem.Challenge.pw_clausekeep_k21_solved_wide.main.body.getD i (.Pass ⟨0,0,0,0⟩)
noncomputable abbrev a1P:Stmt:=top 1
theorem a3n:v8 ["clauses"] ["clauses"] (j9 a1P):=⟨rfl,rfl,rfl,by decide +kernel,rfl,by decide +kernel,by decide +kernel⟩
noncomputable abbrev a0Z:Stmt:=top 2
theorem a2w:v8 ["literals"] ["literals"] (j9 a0Z):=⟨rfl,rfl,rfl,by decide +kernel,rfl,by decide +kernel,by decide +kernel⟩
noncomputable abbrev a4Y:Stmt:=top 3
theorem a5n:v8 ["truths","clause","found","literal"] ["truths","clause"] (j9 a4Y):=⟨rfl,rfl,rfl,by decide +kernel,rfl,by decide +kernel,by decide +kernel⟩
noncomputable abbrev a1A:Stmt:=top 4
theorem a26:v8 ["clause","seen","literal"] ["clause"] (j9 a1A):=⟨rfl,rfl,rfl,by decide +kernel,rfl,by decide +kernel,by decide +kernel⟩
noncomputable abbrev a4d:Stmt:=top 6
theorem a5o:v8 ["variables","clauses","table","steps","chosen","truths","reasons","conflict","free","step","clause"] ["variables","clauses"] (j9 a4d):=⟨rfl,rfl,rfl,by decide +kernel,rfl,by decide +kernel,by decide +kernel⟩
noncomputable abbrev a33:Stmt:=top 7
theorem a5H:v8 ["table","truths","reasons","grown","number","literals"] ["table","truths","reasons"] (j9 a33):=⟨rfl,rfl,rfl,by decide +kernel,rfl,by decide +kernel,by decide +kernel⟩
noncomputable abbrev a2z:Stmt:=top 8
theorem a4v:v8 ["table","chosen","truths","reasons","conflict","needed","hints","variable","clause"] ["table","chosen","truths","reasons","conflict"] (j9 a2z):=⟨rfl,rfl,rfl,by decide +kernel,rfl,by decide +kernel,by decide +kernel⟩
noncomputable abbrev a2L:Stmt:=top 16
theorem a37:v8 ["table","clause","hints","truths","place","outcome"] ["table","clause","hints"] (j9 a2L):=⟨rfl,rfl,rfl,by decide +kernel,rfl,by decide +kernel,by decide +kernel⟩
noncomputable abbrev a0S:Stmt:=top 17
theorem a2j:v8 ["table","truths","hint","literals"] ["table","truths","hint"] (j9 a0S):=⟨rfl,rfl,rfl,by decide +kernel,rfl,by decide +kernel,by decide +kernel⟩
noncomputable abbrev F9:Stmt:=inClass (top 23) 0
theorem V7:v8 ["self","variables","clauses","self.table"] ["self","variables","clauses"] (j9 F9):=⟨rfl,rfl,rfl,by decide +kernel,rfl,by decide +kernel,by decide +kernel⟩
noncomputable abbrev Q2:Stmt:=inClass (top 23) 1
theorem a04:v8 ["self","step","self.table"] ["self","step"] (j9 Q2):=⟨rfl,rfl,rfl,by decide +kernel,rfl,by decide +kernel,by decide +kernel⟩
noncomputable abbrev D5:Stmt:=inClass (top 23) 3
theorem R7:v8 ["self","number","clause","hints","self.table"] ["self","number","clause","hints"] (j9 D5):=⟨rfl,rfl,rfl,by decide +kernel,rfl,by decide +kernel,by decide +kernel⟩
noncomputable abbrev F6:Stmt:=inClass (top 23) 4
theorem V2:v8 ["self","number","clause","hints","self.table"] ["self","number","clause","hints"] (j9 F6):=⟨rfl,rfl,rfl,by decide +kernel,rfl,by decide +kernel,by decide +kernel⟩
noncomputable abbrev a1k:Stmt:=top 24
theorem a4c:v8 ["variables","clauses","steps","keeper","step","keeper.table"] ["variables","clauses","steps"] (j9 a1k):=⟨rfl,rfl,rfl,by decide +kernel,rfl,by decide +kernel,by decide +kernel⟩
noncomputable abbrev a1B:Stmt:=top 26
theorem a3b:v8 ["_law_script","_law_k"] ["_law_script","_law_k"] (j9 a1B):=⟨rfl,rfl,rfl,by decide +kernel,rfl,by decide +kernel,by decide +kernel⟩
noncomputable abbrev a2Y:Stmt:=top 27
theorem a4D:v8 ["_law_script","_law_k","_law_number"] ["_law_script","_law_k"] (j9 a2Y):=⟨rfl,rfl,rfl,by decide +kernel,rfl,by decide +kernel,by decide +kernel⟩
noncomputable abbrev a0E:Stmt:=top 30
theorem a1y:v8 ["_law_script","_law_base","_law_variables","_law_most","_law_number","_law_size","_law_found","_law_k","_law_part"] ["_law_script","_law_base","_law_variables","_law_most"] (j9 a0E):=⟨rfl,rfl,rfl,by decide +kernel,rfl,by decide +kernel,by decide +kernel⟩
noncomputable abbrev a0w:Stmt:=top 33
theorem a1v:v8 ["_law_things","_law_places_here","_law_clauses","_law_at","_law_one","_law_other","_law_pair"] ["_law_things","_law_places_here"] (j9 a0w):=⟨rfl,rfl,rfl,by decide +kernel,rfl,by decide +kernel,by decide +kernel⟩
noncomputable abbrev b1q:Stmt:=top 34
theorem b2y:v8 ["_law_script","_law_way","_law_due","_law_pair","_law_formula_here","_law_variables","_law_many","_law_found","_law_names"] ["_law_script"] (j9 b1q):=⟨rfl,rfl,rfl,by decide +kernel,rfl,by decide +kernel,by decide +kernel⟩
noncomputable def a7a (p v:Int):Int:=(1 + p / 2 % v) * (1 - 2 * (p % 2))
noncomputable def sizeV (n most:Int):Int:=if n % 6=0 then 1 else if n % 6=1 then 2 else if n % 6=2 then 3 else if n % 6=3 then 2 else if n % 6=4 then 3 else n / 6 % (most + 1)
noncomputable def a0D (ns:List Int)(b v most:Int):List Int:=(List.range (sizeV (A8 ns b) most).toNat).map fun (k:Nat)=>a7a (A8 ns (b + 1 + (k:Int))) v
noncomputable def l7 (ts:List (Int×Int)):List (Key×D):=ts.map fun kv=>(.inl kv.1,.int kv.2)
noncomputable def l5 (ts:List (Int×Int))(k:Int):Option Int:=(ts.find? fun kv=>decide (kv.1=k)).map (·.2)
noncomputable def P7 (acc:List Int)(l:Int):List Int:=if l∈acc then acc else acc++[l]
noncomputable def a2b (ts:List (Int×Int))(acc:List Int)(l:Int):List Int:=if l5 ts l.natAbs=some (-l) then acc else P7 acc l
noncomputable def y9 (ts:List (Int×Int))(ls:List Int):List Int:=ls.foldl (a2b ts) []
noncomputable def J2 (cs:List (List Int)):List D:=cs.map fun c=>D.tup (c.map D.int)
noncomputable abbrev C2:=List (Int×Int)
noncomputable def E4 (ts:C2)(k v:Int):C2:=if (ts.any fun kv=>decide (kv.1=k))=true then ts.map fun kv=>if kv.1=k then (kv.1,v) else kv else ts++[(k,v)]
noncomputable def t8 (x:Int):Int:=(x.natAbs:Int)
noncomputable def B8 (ls:List Int):C2:=ls.foldl (fun ts l=>E4 ts (t8 l) l) []
noncomputable abbrev Tab:=List (Int×List Int)
noncomputable def v5 (T:Tab):List (Key×D):=T.map fun kv=>(.inl kv.1,.tup (kv.2.map D.int))
noncomputable def I9 (T:Tab)(k:Int):Option (List Int):=(T.find? fun kv=>decide (kv.1=k)).map (·.2)
noncomputable def okT (T:Tab):Bool:=decide (T.length≤600) && T.all fun kv=>decide (kv.2.length≤1000)
noncomputable def v7:Int→List (List Int)→Tab
 | _,[]=>[]
 | k,c::cs=>(k,c)::v7 (k + 1) cs
noncomputable def scan1 (ts rs:C2)(g:Bool)(n:Int):List Int→Option (C2×C2×Bool)
 | []=>none
 | [l]=>if (l5 ts (t8 l)).isSome=true then some (ts,rs,g) else some (E4 ts (t8 l) l,E4 rs (t8 l) n,true)
 | _=>some (ts,rs,g)
noncomputable def F5:C2→C2→Bool→Tab→Option Int×C2×C2×Bool
 | ts,rs,g,[]=>(none,ts,rs,g)
 | ts,rs,g,kv::ns=>match scan1 ts rs g kv.1 (y9 ts kv.2) with
  | none=>(some kv.1,ts,rs,g)
  | some (ts',rs',g')=>F5 ts' rs' g' ns
noncomputable def M4 (T:Tab):Nat→C2→C2→Option (Option Int×C2×C2)
 | 0,_,_=>none
 | n + 1,ts,rs=>match F5 ts rs false T with
  | (some k,ts',rs',_)=>some (some k,ts',rs')
  | (none,ts',rs',false)=>some (none,ts',rs')
  | (none,ts',rs',true)=>M4 T n ts' rs'
noncomputable def b0A:Option Int→D
 | none=>.w6
 | some k=>.int k
noncomputable def S3 (c:List Int):List Int:=(c.map t8).foldl P7 []
noncomputable def O1 (T:Tab)(rs:C2):List Int→List Int→List Int→Option (List Int×List Int)
 | [],hs,nd=>some (hs,nd)
 | x::xs,hs,nd=>if x∈nd∧(l5 rs x).isSome=true then (I9 T ((l5 rs x).getD 0)).bind fun c=>O1 T rs xs (hs++[(l5 rs x).getD 0]) ((S3 c).foldl P7 nd) else O1 T rs xs hs nd
noncomputable def Y6 (T:Tab)(ch:List Int)(ts rs:C2)(k:Int):Option (List Int×List Int):=(I9 T k).bind fun c=>(O1 T rs (ts.map (·.1)).reverse [k] (S3 c)).map fun r=>((ch.filter fun l=>decide (t8 l∈r.2)).map (fun l=>-l),r.1.reverse)
noncomputable abbrev Stp:=Int×List Int×List Int
noncomputable def L4 (s:Stp):D:=.tup [.str [97,100,100],.int s.1,.tup (s.2.1.map D.int),.tup (s.2.2.map D.int)]
noncomputable def C8 (v:Int)(ts:C2):List Int:=((List.range v.toNat).map fun k=>(1:Int) + ((k:Nat):Int)).filter fun x=>!(l5 ts x).isSome
noncomputable def a4O (v:Int)(ts:C2):List Int:=((List.range v.toNat).map fun k=>(1:Int) + ((k:Nat):Int)).map fun x=>(l5 ts x).getD 0
noncomputable def okS (cs:List (List Int))(st:List Stp)(ch:List Int):Bool:=decide (cs.length≤500∧st.length≤500∧ch.length≤20) && cs.all fun c=>decide (c.length≤100)
noncomputable def v9 (v:Int):Nat→List (List Int)→List Stp→List Int→Option (Option (List Int)×List Stp)
 | 0,_,_,_=>none
 | n + 1,cs,st,ch=>if okS cs st ch=true then match M4 (v7 1 cs) 99 (B8 ch) [] with
  | none=>none
  | some (some k,ts,rs)=>if ts.length≤20∧rs.length≤1000 then match Y6 (v7 1 cs) ch ts rs k with
   | none=>none
   | some (c,hs)=>match c.getLast? with
    | none=>some (none,st++[(((cs.length + 1:Nat):Int),c,hs)])
    | some l=>if -l∈ch then v9 v n (cs++[c]) (st++[(((cs.length + 1:Nat):Int),c,hs)]) (ch.takeWhile fun x=>!decide (x=-l)) else none
   else none
  | some (none,ts,rs)=>match C8 v ts with
   | []=>some (some (a4O v ts),[])
   | x::_=>v9 v n cs st (ch++[-x])
  else none
noncomputable def b6a:Option (List Int)→D
 | none=>.w6
 | some M=>.tup (M.map D.int)
noncomputable abbrev a89:List Nat:=[101,110,100,115]
noncomputable abbrev a7l:List Nat:=[103,111,101,115,32,111,110]
noncomputable abbrev b6m:List Nat:=[119,114,111,110,103]
noncomputable def b28 (i:Nat)(f:List D→Option FR)(ds:List D):Option FR:=match ds[i]? with
 | some (.dct _)=>f ds
 | _=>none
theorem a4r {i:Nat}{f:List D→Option FR}{ds:List D}{r:FR}(h:b28 i f ds=some r):(∃ es,ds[i]?=some (.dct es))∧f ds=some r:=by
 unfold b28 at h
 split at h
 ·rename_i es e
  exact ⟨⟨es,e⟩,h⟩
 ·cases h
section
variable {P:Program}{w:World}{K:PySem.W.Frag}{mg:Str→Option Value}{base:Heap}{f:Addr}{fd:FuncData}
noncomputable abbrev S9:SM:=(p6 (ifS (a01 (d8 0)) (retS (g9 B0 (d8 0) (g9 a0e (d8 1) (E3 a1T (c9 (d8 0) j5))))) nxS)
 (retS (mC (.int 0))))
noncomputable def W7:List D→Option FR:=z9 S9 2 [false,false]
theorem a42:∀ ds r,W7 ds=some r→z9 S9 2 [false,false] ds=some r:=fun _ _ h=>h
theorem a5W (F:Fun K "_law_cell" "_law_cell" a1B f fd) (z_len:mg "len"=none):
  B7 P w K mg base X4 1 f fd ["_law_script","_law_k"] (Q4 K [false,false] (z9 S9 2 [false,false])):=
 have nd:=a3b.nd
 a0h (k:=0) F a3b rfl (fun cdv A outer s H E H0 HK G0 L hr=>by
  have hu:=hu8 hr
  exact (k6 (V8 (a3f (dv 0)) (p9 (E2 (C6 hu (dv 0) (Z4 (dv 1) (a3s z_len (f7 (dv 0) j6)))))) Q7)
   (p9 (E2 k8))))
noncomputable abbrev W5:SM:=(p6 (u6 2 (g9 a0e (g9 O8 (w5 [false,false] W7 (c9 (d8 0) (c9 (d8 1) j5))) (g9 a17 (mC (.int 104729)) (g9 O8 (d8 1) (mC (.int 1))))) (mC (.int 4294967291))))
 (p6 (u6 2 (g9 a0e (g9 a17 (d8 2) (mC (.int 48271))) (mC (.int 4294967279))))
 (retS (g9 a0e (g9 O8 (g9 a17 (g9 b0E (d8 2) (mC (.int 64))) (mC (.int 69621))) (d8 2)) (mC (.int 4294967231))))))
noncomputable def z6:List D→Option FR:=z9 W5 3 [false,false]
theorem a6C:∀ ds r,z6 ds=some r→z9 W5 3 [false,false] ds=some r:=fun _ _ h=>h
theorem a7h (F:Fun K "_law_mix" "_law_mix" a2Y f fd)
  (h_law_cell:Has P w K mg base 1 "_law_cell" ["_law_script","_law_k"] (Q4 K [false,false] W7)):
  B7 P w K mg base X4 2 f fd ["_law_script","_law_k"] (Q4 K [false,false] (z9 W5 3 [false,false])):=
 have nd:=a4D.nd
 a0h (k:=1) F a4D rfl (fun cdv A outer s H E H0 HK G0 L hr=>by
  have hu:=hu8 hr
  exact (k6 (z8 (i:=2) (Z4 (N7 (B5 h_law_cell (hr.mono (by decide)) (f7 (dv 0) (f7 (dv 1) j6))) (a1p k8 (N7 (dv 1) k8))) k8) nd)
   (k6 (z8 (i:=2) (Z4 (a1p (dv 2) k8) k8) nd)
   (p9 (E2 (Z4 (N7 (a1p (b1L (dv 2) k8) k8) (dv 2)) k8))))))
noncomputable abbrev a0I:SM:=(p6 (u6 8 (w5 [false,false] z6 (c9 (d8 0) (c9 (g9 O8 (g9 O8 (d8 1) (mC (.int 1))) (d8 7)) j5))))
 (V0 (O5 6 (c9 (g9 a17 (g9 O8 (mC (.int 1)) (g9 a0e (g9 b0E (d8 8) (mC (.int 2))) (d8 2))) (g9 b6s (mC (.int 1)) (g9 a17 (mC (.int 2)) (g9 a0e (d8 8) (mC (.int 2)))))) j5))))
noncomputable abbrev N6:SM:=(p6 (u6 4 (w5 [false,false] z6 (c9 (d8 0) (c9 (d8 1) j5))))
 (p6 (u6 5 (g9 B0 (a0N (c9 (mC (.int 1)) (c9 (mC (.int 2)) (c9 (mC (.int 3)) (c9 (mC (.int 2)) (c9 (mC (.int 3)) (c9 (g9 a0e (g9 b0E (d8 4) (mC (.int 6))) (g9 O8 (d8 3) (mC (.int 1)))) j5))))))) (g9 a0e (d8 4) (mC (.int 6)))))
 (p6 (u6 6 (a0N j5))
 (p6 (a2Q (a0O ints1 (c9 (d8 5) j5)) (N5 7) a0I)
 (retS (E3 a2Z (c9 (d8 6) j5)))))))
noncomputable def L6:List D→Option FR:=z9 N6 9 [false,false,false,false]
theorem a3J:∀ ds r,L6 ds=some r→z9 N6 9 [false,false,false,false] ds=some r:=fun _ _ h=>h
theorem a4g (F:Fun K "_law_clause" "_law_clause" a0E f fd) (z_range:mg "range"=none) (z_tuple:mg "tuple"=none)
  (h_law_mix:Has P w K mg base 2 "_law_mix" ["_law_script","_law_k"] (Q4 K [false,false] z6)):
  B7 P w K mg base X4 3 f fd ["_law_script","_law_base","_law_variables","_law_most"] (Q4 K [false,false,false,false] (z9 N6 9 [false,false,false,false])):=
 have nd:=a1y.nd
 a0h (k:=2) F a1y rfl (fun cdv A outer s H E H0 HK G0 L hr=>by
  have hu:=hu8 hr
  exact (k6 (z8 (i:=4) (B5 h_law_mix (hr.mono (by decide)) (f7 (dv 0) (f7 (dv 1) j6))) nd)
   (k6 (z8 (i:=5) (C6 hu (a1q (f7 k8 (f7 k8 (f7 k8 (f7 k8 (f7 k8 (f7 (Z4 (b1L (dv 4) k8) (N7 (dv 3) k8)) j6))))))) (Z4 (dv 4) k8)) nd)
   (k6 (z8 (i:=6) (a1q j6) nd)
   (k6 (a1X (U5 z_range (f7 (dv 5) j6)) (a0s (i:=7) nd) (k6 (z8 (i:=8) (B5 h_law_mix (hr.mono (by decide)) (f7 (dv 0) (f7 (N7 (N7 (dv 1) k8) (dv 7)) j6))) nd)
   (p9 (a1a (a03 6 (dv 6) (f7 (a1p (N7 k8 (Z4 (b1L (dv 8) k8) (dv 2))) (b8t k8 (a1p k8 (Z4 (dv 8) k8)))) j6))))))
   (p9 (E2 (a3W z_tuple (f7 (dv 6) j6)))))))))
noncomputable abbrev S8:SM:=(retS (E3 a9v (c9 (d8 0) j5)))
noncomputable def J1:List D→Option FR:=z9 S8 1 [false]
theorem a43:∀ ds r,J1 ds=some r→z9 S8 1 [false] ds=some r:=fun _ _ h=>h
theorem a5Y (F:Fun K "numbered" "numbered" a1P f fd) (z_dict:mg "dict"=none) (z_enumerate:mg "enumerate"=none):
  B7 P w K mg base X4 1 f fd ["clauses"] (Q4 K [false] (z9 S8 1 [false])):=
 have nd:=a3n.nd
 a0h (k:=0) F a3n rfl (fun cdv A outer s H E H0 HK G0 L hr=>by
  have hu:=hu8 hr
  exact (p9 (E2 (a8W rfl z_dict z_enumerate (f7 (dv 0) j6)))))
noncomputable abbrev Q3:SM:=(retS (E3 a0y (c9 (D9 (C9 (d8 0)) (N5 0) N4 (Q8 (c9 (E3 L1 (c9 (d8 0) j5)) (c9 (d8 0) j5))) 1 []) j5)))
noncomputable def E8:List D→Option FR:=z9 Q3 1 [false]
theorem a4A:∀ ds r,E8 ds=some r→z9 Q3 1 [false] ds=some r:=fun _ _ h=>h
theorem a5c (F:Fun K "truths_of" "truths_of" a0Z f fd) (z_dict:mg "dict"=none) (z_abs:mg "abs"=none):
  B7 P w K mg base X4 1 f fd ["literals"] (Q4 K [false] (z9 Q3 1 [false])):=
 have nd:=a2w.nd
 a0h (k:=0) F a2w rfl (fun cdv A outer s H E H0 HK G0 L hr=>by
  have hu:=hu8 hr
  exact (p9 (E2 (a6g rfl z_dict (f7 (X8 (a1V [] trivial) (a0J (dv 0)) (fun _ _ _ _ _ _ _ _ _=>a0H) (fun _ _ _ _ _ _ _ _ _=>(O9 (f7 (a0G z_abs (f7 (dv 0) j6)) (f7 (dv 0) j6))))) j6)))))
noncomputable abbrev a3k:SM:=(ifS (x9 (g9 a69 (a67 (d8 0) (E3 L1 (c9 (d8 3) j5))) (mUn a0U (d8 3)))) (a3v 2 (mC (.bl true)) (d8 3)) nxS)
noncomputable abbrev a0p:SM:=(p6 (u6 2 a5O)
 (p6 (a2Q (C9 (d8 1)) (N5 3) a3k)
 (retS (E3 a1u (c9 (d8 2) j5)))))
noncomputable def P5:List D→Option FR:=z9 a0p 4 [false,false]
theorem a7x:∀ ds r,P5 ds=some r→z9 a0p 4 [false,false] ds=some r:=fun _ _ h=>h
theorem a8I (F:Fun K "opened" "opened" a4Y f fd) (z_abs:mg "abs"=none) (z_list:mg "list"=none):
  B7 P w K mg base X4 1 f fd ["truths","clause"] (Q4 K [false,false] (z9 a0p 4 [false,false])):=
 have nd:=a5n.nd
 a0h (k:=0) F a5n rfl (fun cdv A outer s H E H0 HK G0 L hr=>by
  have hu:=hu8 hr
  exact (k6 (z8 (i:=2) a8J nd)
   (k6 (a1X (a0J (dv 1)) (a0s (i:=3) nd) (p9 (V8 (b3o hu (a8Z hu (dv 0) (a0G z_abs (f7 (dv 3) j6))) (a2n (dv 3))) (p9 (a4P 2 hu a0z (dv 2) (dv 3))) Q7)))
   (p9 (E2 (a79 rfl z_list (f7 (dv 2) j6)))))))
noncomputable abbrev a25:SM:=(p6 (u6 5 (w5 [false,false] P5 (c9 (d8 1) (c9 (g9 B0 (d8 0) (d8 4)) j5))))
 (p6 (ifS (x9 (g9 Z7 (d8 5) (a0N j5))) (retS (d8 4)) nxS)
 (ifS (a46 (x9 (g9 Z7 (E3 a1T (c9 (d8 5) j5)) (mC (.int 1)))) (x9 (g9 S2 (E3 L1 (c9 (g9 B0 (d8 5) (mC (.int 0))) j5)) (d8 1)))) (p6 (a3v 1 (g9 B0 (d8 5) (mC (.int 0))) (E3 L1 (c9 (g9 B0 (d8 5) (mC (.int 0))) j5)))
 (p6 (a3v 2 (d8 4) (E3 L1 (c9 (g9 B0 (d8 5) (mC (.int 0))) j5)))
 (u6 3 (mC (.bl true))))) nxS)))
noncomputable abbrev a3q:SM:=(p6 (u6 3 (mC (.bl false)))
 (a2Q (a5K 0) (N5 4) a25))
noncomputable abbrev a0C:SM:=(p6 (u6 3 (mC (.bl true)))
 (p6 (B4 (a01 (d8 3)) a3q 100)
 (retS (mC .w6))))
noncomputable def T7:List D→Option FR:=b28 0 (a3j a0C 6 [false,true,true] 0)
theorem a63:∀ ds r,T7 ds=some r→a3j a0C 6 [false,true,true] 0 ds=some r:=fun _ _ h=>(a4r h).2
theorem a77:∀ ds r,T7 ds=some r→∃ es,ds[0]?=some (.dct es):=fun _ _ h=>(a4r h).1
theorem a8y (F:Fun K "spread" "spread" a33 f fd) (z_len:mg "len"=none) (z_abs:mg "abs"=none)
  (h_opened:Has P w K mg base 1 "opened" ["truths","clause"] (Q4 K [false,false] P5)):
  B7 P w K mg base X4 2 f fd ["table","truths","reasons"] (a8q K [false,true,true] 0 (a3j a0C 6 [false,true,true] 0)):=
 have nd:=a5H.nd
 b6y (k:=1) F a5H rfl rfl (fun cdv A outer s H E H0 HK G0 L hr=>by
  have hu:=hu8 hr
  exact (k6 (z8 (i:=3) a0z nd)
   (k6 (a53 100 (a3f (dv 3)) (k6 (z8 (i:=3) a0z nd)
   (p9 (a1X (b5B 0) (a0s (i:=4) nd) (k6 (z8 (i:=5) (B5 h_opened (hr.mono (by decide)) (f7 (dv 1) (f7 (C6 hu (dv 0) (dv 4)) j6))) nd)
   (k6 (V8 (a4p hu (dv 5) (a1q j6)) (p9 (E2 (dv 4))) Q7)
   (p9 (V8 ((w_and (a4p hu (a3s z_len (f7 (dv 5) j6)) k8) (a8r (a6E hu (a0G z_abs (f7 (C6 hu (dv 5) k8) j6)) (dv 1))))).pt (k6 (a4P 1 hu (C6 hu (dv 5) k8) (dv 1) (a0G z_abs (f7 (C6 hu (dv 5) k8) j6)))
   (k6 (a4P 2 hu (dv 4) (dv 2) (a0G z_abs (f7 (C6 hu (dv 5) k8) j6)))
   (p9 (z8 (i:=3) a0z nd)))) Q7))))))))
   (p9 (E2 b3d)))))
noncomputable abbrev a19:SM:=(ifS (a46 (x9 (g9 inD (d8 7) (d8 5))) (x9 (g9 inD (d8 7) (d8 3)))) (p6 (V0 (O5 6 (c9 (g9 B0 (d8 3) (d8 7)) j5)))
 (V0 (a3S 5 (c9 (E3 a0y (c9 (D9 (C9 (g9 B0 (d8 0) (g9 B0 (d8 3) (d8 7)))) (N5 0) N4 (Q8 (c9 (E3 L1 (c9 (d8 0) j5)) (c9 (mC (.bl true)) j5))) 1 []) j5)) j5)))) nxS)
noncomputable abbrev W8:SM:=(p6 (u6 5 (E3 a0y (c9 (D9 (C9 (g9 B0 (d8 0) (d8 4))) (N5 0) N4 (Q8 (c9 (E3 L1 (c9 (d8 0) j5)) (c9 (mC (.bl true)) j5))) 1 []) j5)))
 (p6 (u6 6 (a0N (c9 (d8 4) j5)))
 (p6 (a2Q (b1p (c9 (E3 a1u (c9 (d8 2) j5)) j5)) (N5 7) a19)
 (p6 (u6 8 (D9 (C9 (d8 1)) (N5 0) (x9 (g9 inD (E3 L1 (c9 (d8 0) j5)) (d8 1))) (mUn a0U (d8 0)) 1 [5]))
 (retS (Q8 (c9 (mC (.str [97,100,100])) (c9 (g9 O8 (E3 a1T (c9 (d8 0) j5)) (mC (.int 1))) (c9 (E3 a2Z (c9 (d8 8) j5)) (c9 (E3 a3Y (c9 (d8 6) j5)) j5))))))))))
noncomputable def U8:List D→Option FR:=z9 W8 9 [false,false,false,false,false]
theorem a6m:∀ ds r,U8 ds=some r→z9 W8 9 [false,false,false,false,false] ds=some r:=fun _ _ h=>h
theorem a7c (F:Fun K "learned" "learned" a2z f fd) (z_dict:mg "dict"=none) (z_abs:mg "abs"=none) (z_reversed:mg "reversed"=none) (z_list:mg "list"=none) (z_len:mg "len"=none) (z_tuple:mg "tuple"=none):
  B7 P w K mg base X4 1 f fd ["table","chosen","truths","reasons","conflict"] (Q4 K [false,false,false,false,false] (z9 W8 9 [false,false,false,false,false])):=
 have nd:=a4v.nd
 a0h (k:=0) F a4v rfl (fun cdv A outer s H E H0 HK G0 L hr=>by
  have hu:=hu8 hr
  exact (k6 (z8 (i:=5) (a6g rfl z_dict (f7 (X8 (a1V [] trivial) (a0J (C6 hu (dv 0) (dv 4))) (fun _ _ _ _ _ _ _ _ _=>a0H) (fun _ _ _ _ _ _ _ _ _=>(O9 (f7 (a0G z_abs (f7 (dv 0) j6)) (f7 a0z j6))))) j6)) nd)
   (k6 (z8 (i:=6) (a1q (f7 (dv 4) j6)) nd)
   (k6 (a1X (b73 z_reversed (f7 (a79 rfl z_list (f7 (dv 2) j6)) j6)) (a0s (i:=7) nd) (p9 (V8 ((w_and (b20 hu (dv 7) (dv 5)) (a8r (b20 hu (dv 7) (dv 3))))).pt (k6 (a1a (a03 6 (dv 6) (f7 (C6 hu (dv 3) (dv 7)) j6)))
   (p9 (a1a (b2w 5 (dv 5) (f7 (a6g rfl z_dict (f7 (X8 (a1V [] trivial) (a0J (C6 hu (dv 0) (C6 hu (dv 3) (dv 7)))) (fun _ _ _ _ _ _ _ _ _=>a0H) (fun _ _ _ _ _ _ _ _ _=>(O9 (f7 (a0G z_abs (f7 (dv 0) j6)) (f7 a0z j6))))) j6)) j6))))) Q7)))
   (k6 (a6p (i:=8) (a1V [("needed",5)] ⟨⟨rfl,rfl,.inl rfl⟩,trivial⟩) nd (a0J (dv 1)) (fun _ _ _ _ _ _ _ _ _=>b5k (b20 hu (a0G z_abs (f7 (dv 0) j6)) (dv 1))) (fun _ _ _ _ _ _ _ _ _=>(a2n (dv 0))))
   (p9 (E2 (O9 (f7 (b1F (cs:=[97,100,100]) (by decide +kernel)) (f7 (N7 (a3s z_len (f7 (dv 0) j6)) k8) (f7 (a3W z_tuple (f7 (dv 8) j6)) (f7 (b21 rfl z_tuple z_reversed (f7 (dv 6) j6)) j6))))))))))))
noncomputable abbrev a23:SM:=(p6 (u6 5 (w5 [false] E8 (c9 (d8 4) j5)))
 (p6 (u6 6 a5O)
 (p6 (u6 7 (w5 [false,true,true] T7 (c9 (d8 2) (c9 (d8 5) (c9 (d8 6) j5)))))
 (p6 (u6 8 (D9 (a0O ints2 (c9 (mC (.int 1)) (c9 (g9 O8 (d8 0) (mC (.int 1))) j5))) (N5 0) (x9 (g9 S2 (d8 0) (d8 1))) (d8 0) 1 [5]))
 (ifS (x9 (mUn (fun d=>vB (!X7 d)) (d8 7))) (p6 (u6 9 (w5 [false,false,false,false,false] U8 (c9 (d8 2) (c9 (d8 4) (c9 (d8 5) (c9 (d8 6) (c9 (d8 7) j5)))))))
 (p6 (u6 10 (g9 B0 (d8 9) (mC (.int 2))))
 (p6 (V0 (O5 3 (c9 (d8 9) j5)))
 (p6 (ifS (x9 (g9 Z7 (d8 10) (Q8 j5))) (retS (Q8 (c9 (mC .w6) (c9 (d8 3) j5)))) nxS)
 (p6 (a3v 2 (d8 10) (g9 B0 (d8 9) (mC (.int 1))))
 (u6 4 (mSl (d8 4) (M.pure none) (a7F (mMt "list" a4z (d8 4) (c9 (mUn a0U (g9 B0 (d8 10) (mUn a0U (mC (.int 1))))) j5)))))))))) (ifS (a01 (d8 8)) (V0 (O5 4 (c9 (mUn a0U (g9 B0 (d8 8) (mC (.int 0)))) j5))) (retS (Q8 (c9 (E3 a2Z (c9 (D9 (a0O ints2 (c9 (mC (.int 1)) (c9 (g9 O8 (d8 0) (mC (.int 1))) j5))) (N5 0) N4 (g9 B0 (d8 1) (d8 0)) 1 [5]) j5)) (c9 (a0N j5) j5))))))))))
noncomputable abbrev a0q:SM:=(p6 (u6 2 (w5 [false] J1 (c9 (d8 1) j5)))
 (p6 (u6 3 (a0N j5))
 (p6 (u6 4 (a0N j5))
 (B4 (a01 (mC (.bl true))) a23 100000))))
noncomputable def T8:List D→Option FR:=z9 a0q 11 [false,false]
theorem a61:∀ ds r,T8 ds=some r→z9 a0q 11 [false,false] ds=some r:=fun _ _ h=>h
theorem a8G (F:Fun K "solved" "solved" a4d f fd) (z_range:mg "range"=none) (z_tuple:mg "tuple"=none)
  (h_numbered:Has P w K mg base 1 "numbered" ["clauses"] (Q4 K [false] J1))
  (h_truths_of:Has P w K mg base 1 "truths_of" ["literals"] (Q4 K [false] E8))
  (h_spread:Has P w K mg base 2 "spread" ["table","truths","reasons"] (Q4 K [false,true,true] T7))
  (h_learned:Has P w K mg base 1 "learned" ["table","chosen","truths","reasons","conflict"] (Q4 K [false,false,false,false,false] U8)):
  B7 P w K mg base X4 3 f fd ["variables","clauses"] (Q4 K [false,false] (z9 a0q 11 [false,false])):=
 have nd:=a5o.nd
 a0h (k:=2) F a5o rfl (fun cdv A outer s H E H0 HK G0 L hr=>by
  have hu:=hu8 hr
  exact (k6 (z8 (i:=2) (B5 h_numbered (hr.mono (by decide)) (f7 (dv 1) j6)) nd)
   (k6 (z8 (i:=3) (a1q j6) nd)
   (k6 (z8 (i:=4) (a1q j6) nd)
   (p9 (a53 100000 (a3f a0z) (k6 (z8 (i:=5) (B5 h_truths_of (hr.mono (by decide)) (f7 (dv 4) j6)) nd)
   (k6 (z8 (i:=6) a8J nd)
   (k6 (z8 (i:=7) (B5 h_spread (hr.mono (by decide)) (f7 (dv 2) (f7 (dv 5) (f7 (dv 6) j6)))) nd)
   (k6 (a6p (i:=8) (a1V [("truths",5)] ⟨⟨rfl,rfl,.inl rfl⟩,trivial⟩) nd (a7S z_range (f7 k8 (f7 (N7 (dv 0) k8) j6))) (fun _ _ _ _ _ _ _ _ _=>b5k (a6E hu (dv 0) (dv 1))) (fun _ _ _ _ _ _ _ _ _=>(dv 0)))
   (p9 (V8 (b5U (dv 7)) (k6 (z8 (i:=9) (B5 h_learned (hr.mono (by decide)) (f7 (dv 2) (f7 (dv 4) (f7 (dv 5) (f7 (dv 6) (f7 (dv 7) j6)))))) nd)
   (k6 (z8 (i:=10) (C6 hu (dv 9) k8) nd)
   (k6 (a1a (a03 3 (dv 3) (f7 (dv 9) j6)))
   (k6 (V8 (a4p hu (dv 10) (O9 j6)) (p9 (E2 (O9 (f7 b3d (f7 (dv 3) j6))))) Q7)
   (k6 (a4P 2 hu (dv 10) (dv 2) (C6 hu (dv 9) k8))
   (p9 (z8 (i:=4) (b9F (dv 4) b6D (b6v (b4f hu (dv 4) (f7 (a2n (C6 hu (dv 10) (a2n k8))) j6)))) nd))))))) (p9 (V8 (a3f (dv 8)) (p9 (a1a (a03 4 (dv 4) (f7 (a2n (C6 hu (dv 8) k8)) j6)))) (p9 (E2 (O9 (f7 (a3W z_tuple (f7 (X8 (a1V [("truths",5)] ⟨⟨rfl,rfl,.inl rfl⟩,trivial⟩) (a7S z_range (f7 k8 (f7 (N7 (dv 0) k8) j6))) (fun _ _ _ _ _ _ _ _ _=>a0H) (fun _ _ _ _ _ _ _ _ _=>(C6 hu (dv 1) (dv 0)))) j6)) (f7 (a1q j6) j6)))))))))))))))))))
noncomputable abbrev a1s:SM:=(p6 (ifS (x9 (g9 inD (mUn a0U (d8 2)) (d8 1))) (retS (mC (.bl true))) nxS)
 (a3v 1 (mC (.bl true)) (d8 2)))
noncomputable abbrev S4:SM:=(p6 (u6 1 a5O)
 (p6 (a2Q (C9 (d8 0)) (N5 2) a1s)
 (retS (mC (.bl false)))))
noncomputable def W4:List D→Option FR:=z9 S4 3 [false]
theorem a5e:∀ ds r,W4 ds=some r→z9 S4 3 [false] ds=some r:=fun _ _ h=>h
theorem a50 (F:Fun K "has_both" "has_both" a1A f fd):
  B7 P w K mg base X4 1 f fd ["clause"] (Q4 K [false] (z9 S4 3 [false])):=
 have nd:=a26.nd
 a0h (k:=0) F a26 rfl (fun cdv A outer s H E H0 HK G0 L hr=>by
  have hu:=hu8 hr
  exact (k6 (z8 (i:=1) a8J nd)
   (k6 (a1X (a0J (dv 0)) (a0s (i:=2) nd) (k6 (V8 (b20 hu (a2n (dv 2)) (dv 1)) (p9 (E2 a0z)) Q7)
   (p9 (a4P 1 hu a0z (dv 1) (dv 2)))))
   (p9 (E2 a0z)))))
noncomputable abbrev F3:SM:=(p6 (ifS (x9 (g9 S2 (d8 2) (d8 0))) (retS (mC (.str [119,114,111,110,103]))) nxS)
 (p6 (u6 3 (w5 [false,false] P5 (c9 (d8 1) (c9 (g9 B0 (d8 0) (d8 2)) j5))))
 (p6 (ifS (x9 (g9 Z7 (d8 3) (a0N j5))) (retS (mC (.str [101,110,100,115]))) nxS)
 (p6 (ifS (mOr (x9 (g9 (a08 fun i j=>decide (j < i)) (E3 a1T (c9 (d8 3) j5)) (mC (.int 1)))) (x9 (g9 inD (E3 L1 (c9 (g9 B0 (d8 3) (mC (.int 0))) j5)) (d8 1)))) (retS (mC (.str [119,114,111,110,103]))) nxS)
 (p6 (a3v 1 (g9 B0 (d8 3) (mC (.int 0))) (E3 L1 (c9 (g9 B0 (d8 3) (mC (.int 0))) j5)))
 (retS (mC (.str [103,111,101,115,32,111,110]))))))))
noncomputable def K4:List D→Option FR:=z9 F3 4 [false,true,false]
theorem a4y:∀ ds r,K4 ds=some r→z9 F3 4 [false,true,false] ds=some r:=fun _ _ h=>h
theorem a47 (F:Fun K "take_hint" "take_hint" a0S f fd) (z_len:mg "len"=none) (z_abs:mg "abs"=none) (C_WRONG:Cst mg "WRONG" (.str "wrong")) (C_ENDS:Cst mg "ENDS" (.str "ends")) (C_GOES_ON:Cst mg "GOES_ON" (.str "goes on"))
  (h_opened:Has P w K mg base 1 "opened" ["truths","clause"] (Q4 K [false,false] P5)):
  B7 P w K mg base X4 2 f fd ["table","truths","hint"] (Q4 K [false,true,false] (z9 F3 4 [false,true,false])):=
 have nd:=a2j.nd
 a0h (k:=1) F a2j rfl (fun cdv A outer s H E H0 HK G0 L hr=>by
  have hu:=hu8 hr
  exact (k6 (V8 (a6E hu (dv 2) (dv 0)) (p9 (E2 (a5w C_WRONG (fun _=>Z8 (by decide +kernel))))) Q7)
   (k6 (z8 (i:=3) (B5 h_opened (hr.mono (by decide)) (f7 (dv 1) (f7 (C6 hu (dv 0) (dv 2)) j6))) nd)
   (k6 (V8 (a4p hu (dv 3) (a1q j6)) (p9 (E2 (a5w C_ENDS (fun _=>Z8 (by decide +kernel))))) Q7)
   (k6 (V8 ((w_or (b8u (a3s z_len (f7 (dv 3) j6)) k8) (b2a (b20 hu (a0G z_abs (f7 (C6 hu (dv 3) k8) j6)) (dv 1))))).pt (p9 (E2 (a5w C_WRONG (fun _=>Z8 (by decide +kernel))))) Q7)
   (k6 (a4P 1 hu (C6 hu (dv 3) k8) (dv 1) (a0G z_abs (f7 (C6 hu (dv 3) k8) j6)))
   (p9 (E2 (a5w C_GOES_ON (fun _=>Z8 (by decide +kernel)))))))))))
noncomputable abbrev T3:SM:=(p6 (u6 5 (w5 [false,true,false] K4 (c9 (d8 0) (c9 (d8 3) (c9 (g9 B0 (d8 2) (d8 4)) j5)))))
 (p6 (ifS (x9 (g9 a69 (d8 5) (mC (.str [103,111,101,115,32,111,110])))) (retS (g9 Z7 (d8 5) (mC (.str [101,110,100,115])))) nxS)
 (b2J 4 (mC (.int 1)))))
noncomputable abbrev W9:SM:=(p6 (ifS (a01 (w5 [false] W4 (c9 (d8 1) j5))) (retS (mC (.bl true))) nxS)
 (p6 (u6 3 (w5 [false] E8 (c9 (D9 (C9 (d8 1)) (N5 0) N4 (mUn a0U (d8 0)) 1 []) j5)))
 (p6 (u6 4 (mC (.int 0)))
 (p6 (B4 (a46 (x9 (g9 (a08 fun i j=>decide (i < j)) (d8 4) (E3 a1T (c9 (d8 2) j5)))) (x9 (g9 (a08 fun i j=>decide (j < i)) (g9 B0 (d8 2) (d8 4)) (mC (.int 0))))) T3 1000)
 a6w))))
noncomputable def a0B:List D→Option FR:=z9 W9 6 [false,false,false]
theorem a6H:∀ ds r,a0B ds=some r→z9 W9 6 [false,false,false] ds=some r:=fun _ _ h=>h
theorem a6Y (F:Fun K "follows" "follows" a2L f fd) (z_len:mg "len"=none) (C_GOES_ON:Cst mg "GOES_ON" (.str "goes on")) (C_ENDS:Cst mg "ENDS" (.str "ends"))
  (h_has_both:Has P w K mg base 1 "has_both" ["clause"] (Q4 K [false] W4))
  (h_truths_of:Has P w K mg base 1 "truths_of" ["literals"] (Q4 K [false] E8))
  (h_take_hint:Has P w K mg base 2 "take_hint" ["table","truths","hint"] (Q4 K [false,true,false] K4)):
  B7 P w K mg base X4 3 f fd ["table","clause","hints"] (Q4 K [false,false,false] (z9 W9 6 [false,false,false])):=
 have nd:=a37.nd
 a0h (k:=2) F a37 rfl (fun cdv A outer s H E H0 HK G0 L hr=>by
  have hu:=hu8 hr
  exact (k6 (V8 (a3f (B5 h_has_both (hr.mono (by decide)) (f7 (dv 1) j6))) (p9 (E2 a0z)) Q7)
   (k6 (z8 (i:=3) (B5 h_truths_of (hr.mono (by decide)) (f7 (X8 (a1V [] trivial) (a0J (dv 1)) (fun _ _ _ _ _ _ _ _ _=>a0H) (fun _ _ _ _ _ _ _ _ _=>(a2n (dv 0)))) j6)) nd)
   (k6 (z8 (i:=4) k8 nd)
   (k6 (a53 1000 ((w_and (b86 (dv 4) (a3s z_len (f7 (dv 2) j6))) (a8r (b8u (C6 hu (dv 2) (dv 4)) k8)))).pt (k6 (z8 (i:=5) (B5 h_take_hint (hr.mono (by decide)) (f7 (dv 0) (f7 (dv 3) (f7 (C6 hu (dv 2) (dv 4)) j6)))) nd)
   (k6 (V8 (b3o hu (dv 5) (a5w C_GOES_ON (fun _=>Z8 (by decide +kernel)))) (p9 (E2 (b47 hu (dv 5) (a5w C_ENDS (fun _=>Z8 (by decide +kernel)))))) Q7)
   (p9 (b23 (i:=4) k8 nd)))))
   (p9 a5X))))))
noncomputable abbrev D7:SM:=(p6 (a2o 0 "variables" (d8 1))
 (p6 (tabS 0 3 (w5 [false] J1 (c9 (d8 2) j5)))
 (p6 (a2o 0 "greatest" (E3 a1T (c9 (d8 2) j5)))
 (p6 (a2o 0 "taken" (mC (.int 0)))
 (a2o 0 "refuted" (mC (.bl false)))))))
theorem V5:¬ Vis (j9 F9) "self.table":=by unfold Vis; decide +kernel
noncomputable def B6:List D→Option L3.Made:=a7g D7 4 3
theorem a0V:∀ ds r,B6 ds=some r→a7g D7 4 3 ds=some r:=fun _ _ h=>h
theorem a1n (F:Fun K "__init__" "Keeper.__init__" F9 f fd) (z_len:mg "len"=none) {C_Keeper:Addr} (O_Keeper:a2I K C_Keeper ["variables","table","greatest","taken","refuted"])
  (h_numbered:Has P w K mg base 1 "numbered" ["clauses"] (Q4 K [false] J1)):
  B7 P w K mg base X4 2 f fd ["self","variables","clauses"] (SpI K C_Keeper 3 (a7g D7 4 3)):=
 have nd:=V7.nd
 b78 (k:=1) (C:=C_Keeper) (g:="self.table") 3 F V7 rfl V5 (by decide) (by decide) (fun cdv A outer s H E H0 HK G0 L hL hr=>by
  have hu:=hu8 hr
  exact (k6 (a5x 0 3 O_Keeper 0 (dv 1))
   (k6 (b8m 0 3 O_Keeper 1 (B5 h_numbered (hr.mono (by decide)) (f7 (dv 2) j6)) hL V5)
   (k6 (a5x 0 3 O_Keeper 2 (a3s z_len (f7 (dv 2) j6)))
   (k6 (a5x 0 3 O_Keeper 3 k8)
   (p9 (a5x 0 3 O_Keeper 4 a0z)))))))
noncomputable abbrev D6:SM:=(p6 (ifS (mOr (x9 (g9 (a08 fun i j=>decide (i≤j)) (d8 1) (a93 0 "greatest"))) (a01 (E3 a8j (c9 (D9 (C9 (d8 2)) (N5 0) N4 (g9 (a08 fun i j=>decide (j < i)) (E3 L1 (c9 (d8 0) j5)) (mRd 1 "variables")) 1 [0]) j5)))) (retS (mC (.bl false))) nxS)
 (retS (w5 [false,false,false] a0B (c9 (a8l 0 4) (c9 (d8 2) (c9 (d8 3) j5))))))
theorem a1L:¬ Vis (j9 F6) "self.table":=by unfold Vis; decide +kernel
noncomputable def E9:List (Str×D)→List (Key×D)→List D→Option MR:=runM D6 5 4
theorem a05:∀ fds es ds r,E9 fds es ds=some r→runM D6 5 4 fds es ds=some r:=fun _ _ _ _ h=>h
theorem a1l (F:Fun K "is_right" "Keeper.is_right" F6 f fd) (z_any:mg "any"=none) (z_abs:mg "abs"=none) {C_Keeper:Addr} (O_Keeper:a2I K C_Keeper ["variables","table","greatest","taken","refuted"])
  (h_follows:Has P w K mg base 3 "follows" ["table","clause","hints"] (Q4 K [false,false,false] a0B)):
  B7 P w K mg base X4 4 f fd ["self","number","clause","hints"] (SpM K C_Keeper 4 (runM D6 5 4)):=
 have nd:=V2.nd
 b2Y (k:=3) (C:=C_Keeper) (g:="self.table") 4 F V2 rfl a1L (by decide) (fun cdv A outer s H E H0 HK G0 L hr=>by
  have hu:=hu8 hr
  exact (k6 (V8 ((w_or (b9m (dv 1) (b3i 0 4 O_Keeper 2)) (b2a (a3f (b5u rfl z_any (f7 (X8 (a1V [("self",0)] ⟨⟨rfl,rfl,.inl rfl⟩,trivial⟩) (a0J (dv 2)) (fun _ _ _ _ _ _ _ _ _=>a0H) (fun _ _ _ _ _ _ _ _ _=>(b9e (a0G z_abs (f7 (dv 0) j6)) (b9u 1 O_Keeper 0)))) j6)))))).pt (p9 (E2 a0z)) Q7)
   (p9 (E2 (B5 h_follows (hr.mono (by decide)) (f7 (b5o 0 4 O_Keeper 1) (f7 (dv 2) (f7 (dv 3) j6))))))))
noncomputable abbrev B9:SM:=(p6 (ifS (b3q (a01 (a4b 0 4 "is_right" 4 E9 (c9 (d8 1) (c9 (d8 2) (c9 (d8 3) j5)))))) a6w nxS)
 (p6 (b0r (a8l 0 4) 4 (d8 2) (d8 1))
 (p6 (a2o 0 "greatest" (d8 1))
 (a2o 0 "refuted" (g9 Z7 (d8 2) (Q8 j5))))))
theorem a07:¬ Vis (j9 D5) "self.table":=by unfold Vis; decide +kernel
noncomputable def C5:List (Str×D)→List (Key×D)→List D→Option MR:=runM B9 5 4
theorem a0A:∀ fds es ds r,C5 fds es ds=some r→runM B9 5 4 fds es ds=some r:=fun _ _ _ _ h=>h
theorem a0K (F:Fun K "add_clause" "Keeper.add_clause" D5 f fd) {C_Keeper:Addr} (O_Keeper:a2I K C_Keeper ["variables","table","greatest","taken","refuted"])
  (h_Keeper_is_right:b1M P w K mg base 4 C_Keeper "is_right" ["self","number","clause","hints"] (SpM K C_Keeper 4 E9)):
  B7 P w K mg base X4 5 f fd ["self","number","clause","hints"] (SpM K C_Keeper 4 (runM B9 5 4)):=
 have nd:=R7.nd
 b2Y (k:=4) (C:=C_Keeper) (g:="self.table") 4 F R7 rfl a07 (by decide) (fun cdv A outer s H E H0 HK G0 L hr=>by
  have hu:=hu8 hr
  exact (k6 (V8 (b5g (a3f (a8p 0 4 O_Keeper h_Keeper_is_right (hr.mono (by decide)) (f7 (dv 1) (f7 (dv 2) (f7 (dv 3) j6)))))) (p9 a5X) Q7)
   (k6 (a4P 4 hu (dv 2) (b5o 0 4 O_Keeper 1) (dv 1) (hm:=b07))
   (k6 (a5x 0 4 O_Keeper 2 (dv 1))
   (p9 (a5x 0 4 O_Keeper 4 (b47 hu (dv 2) (O9 j6))))))))
noncomputable abbrev M5:SM:=(p6 (ifS (b3q (a01 (a93 0 "refuted"))) (ifS (x9 (g9 Z7 (g9 B0 (d8 1) (mC (.int 0))) (mC (.str [100,114,111,112])))) a6w (V0 (a4b 0 2 "add_clause" 4 C5 (c9 (g9 B0 (d8 1) (mC (.int 1))) (c9 (g9 B0 (d8 1) (mC (.int 2))) (c9 (g9 B0 (d8 1) (mC (.int 3))) j5)))))) nxS)
 (a7m 0 "taken" (mC (.int 1))))
theorem a4V:¬ Vis (j9 Q2) "self.table":=by unfold Vis; decide +kernel
noncomputable def O2:List (Str×D)→List (Key×D)→List D→Option MR:=runM M5 3 2
theorem a2T:∀ fds es ds r,O2 fds es ds=some r→runM M5 3 2 fds es ds=some r:=fun _ _ _ _ h=>h
theorem a3B (F:Fun K "take" "Keeper.take" Q2 f fd) {C_Keeper:Addr} (O_Keeper:a2I K C_Keeper ["variables","table","greatest","taken","refuted"])
  (h_Keeper_add_clause:b1M P w K mg base 5 C_Keeper "add_clause" ["self","number","clause","hints"] (SpM K C_Keeper 4 C5)):
  B7 P w K mg base X4 6 f fd ["self","step"] (SpM K C_Keeper 2 (runM M5 3 2)):=
 have nd:=a04.nd
 b2Y (k:=5) (C:=C_Keeper) (g:="self.table") 2 F a04 rfl a4V (by decide) (fun cdv A outer s H E H0 HK G0 L hr=>by
  have hu:=hu8 hr
  exact (k6 (V8 (b5g (a3f (b3i 0 2 O_Keeper 4))) (p9 (V8 (a4p hu (C6 hu (dv 1) k8) (b1F (cs:=[100,114,111,112]) (by decide +kernel))) (p9 a5X) (p9 (a1a (a8p 0 2 O_Keeper h_Keeper_add_clause (hr.mono (by decide)) (f7 (C6 hu (dv 1) k8) (f7 (C6 hu (dv 1) k8) (f7 (C6 hu (dv 1) k8) j6)))))))) Q7)
   (p9 (b2S 0 2 O_Keeper 3 k8))))
noncomputable abbrev S6:SM:=(V0 (a4b 3 5 "take" 2 O2 (c9 (d8 4) j5)))
noncomputable abbrev W6:SM:=(p6 (a68 3 5 3 B6 (c9 (d8 0) (c9 (d8 1) j5)))
 (p6 (a2Q (C9 (d8 2)) (N5 4) S6)
 (retS (a93 3 "refuted"))))
theorem a72:¬ Vis (j9 a1k) "keeper.table":=by unfold Vis; decide +kernel
noncomputable def V6:List D→Option FR:=z9 W6 6 [false,false,false]
theorem a5U:∀ ds r,V6 ds=some r→z9 W6 6 [false,false,false] ds=some r:=fun _ _ h=>h
theorem a7U (F:Fun K "checked" "checked" a1k f fd) {C_Keeper:Addr} (O_Keeper:a2I K C_Keeper ["variables","table","greatest","taken","refuted"]) (M_Keeper:mg "Keeper"=some (.ref C_Keeper))
  (h_Keeper___init__:b68 P w K mg base 2 C_Keeper ["self","variables","clauses"] (SpI K C_Keeper 3 B6))
  (h_Keeper_take:b1M P w K mg base 6 C_Keeper "take" ["self","step"] (SpM K C_Keeper 2 O2)):
  B7 P w K mg base X4 7 f fd ["variables","clauses","steps"] (Q4 K [false,false,false] (z9 W6 6 [false,false,false])):=
 have nd:=a4c.nd
 b5V (k:=6) (3,5,C_Keeper) F a4c rfl rfl (fun cdv A outer s H E H0 HK G0 L hL hr=>by
  have hu:=hu8 hr
  exact (k6 (b6i 3 5 h_Keeper___init__ M_Keeper (hr.mono (by decide)) (f7 (dv 0) (f7 (dv 1) j6)) (hL 5) a72 nd)
   (k6 (a1X (a0J (dv 2)) (a0s (i:=4) nd) (p9 (a1a (a8p 3 5 O_Keeper h_Keeper_take (hr.mono (by decide)) (f7 (dv 4) j6)))))
   (p9 (E2 (b3i 3 5 O_Keeper 4))))))
noncomputable abbrev a3A:SM:=(p6 (u6 6 (Q8 (c9 (g9 O8 (g9 O8 (g9 a17 (d8 1) (d8 4)) (d8 3)) (mC (.int 1))) (c9 (g9 O8 (g9 O8 (g9 a17 (d8 1) (d8 5)) (d8 3)) (mC (.int 1))) j5))))
 (V0 (O5 2 (c9 (Q8 (c9 (mUn a0U (g9 B0 (d8 6) (mC (.int 0)))) (c9 (mUn a0U (g9 B0 (d8 6) (mC (.int 1)))) j5))) j5))))
noncomputable abbrev a3D:SM:=(a2Q (a0O ints1 (c9 (d8 4) j5)) (N5 5) a3A)
noncomputable abbrev a3C:SM:=(a2Q (a0O ints1 (c9 (d8 0) j5)) (N5 4) a3D)
noncomputable abbrev V4:SM:=(p6 (u6 2 (D9 (a0O ints1 (c9 (d8 0) j5)) (N5 0) N4 (E3 a2Z (c9 (D9 (a0O ints1 (c9 (d8 1) j5)) (N5 0) N4 (g9 O8 (g9 O8 (g9 a17 (d8 1) (d8 2)) (d8 0)) (mC (.int 1))) 1 [1,0]) j5)) 1 [1]))
 (p6 (a2Q (a0O ints1 (c9 (d8 1) j5)) (N5 3) a3C)
 (retS (Q8 (c9 (g9 a17 (d8 0) (d8 1)) (c9 (d8 2) j5))))))
noncomputable def u7:List D→Option FR:=z9 V4 7 [false,false]
theorem a3w:∀ ds r,u7 ds=some r→z9 V4 7 [false,false] ds=some r:=fun _ _ h=>h
theorem a4N (F:Fun K "_law_places" "_law_places" a0w f fd) (z_tuple:mg "tuple"=none) (z_range:mg "range"=none):
  B7 P w K mg base X4 1 f fd ["_law_things","_law_places_here"] (Q4 K [false,false] (z9 V4 7 [false,false])):=
 have nd:=a1v.nd
 a0h (k:=0) F a1v rfl (fun cdv A outer s H E H0 HK G0 L hr=>by
  have hu:=hu8 hr
  exact (k6 (a6p (i:=2) (a1V [("_law_places_here",1)] ⟨⟨rfl,rfl,.inl rfl⟩,trivial⟩) nd (U5 z_range (f7 (dv 0) j6)) (fun _ _ _ _ _ _ _ _ _=>a0H) (fun _ _ _ _ _ _ _ _ _=>(a3W z_tuple (f7 (X8 (a1V [("_law_places_here",1),("_law_one",0)] ⟨⟨rfl,rfl,.inl rfl⟩,⟨⟨rfl,rfl,.inl rfl⟩,trivial⟩⟩) (U5 z_range (f7 (dv 1) j6)) (fun _ _ _ _ _ _ _ _ _=>a0H) (fun _ _ _ _ _ _ _ _ _=>(N7 (N7 (a1p (dv 1) (dv 2)) (dv 0)) k8))) j6))))
   (k6 (a1X (U5 z_range (f7 (dv 1) j6)) (a0s (i:=3) nd) (p9 (a1X (U5 z_range (f7 (dv 0) j6)) (a0s (i:=4) nd) (p9 (a1X (U5 z_range (f7 (dv 4) j6)) (a0s (i:=5) nd) (k6 (z8 (i:=6) (O9 (f7 (N7 (N7 (a1p (dv 1) (dv 4)) (dv 3)) k8) (f7 (N7 (N7 (a1p (dv 1) (dv 5)) (dv 3)) k8) j6))) nd)
   (p9 (a1a (a03 2 (dv 2) (f7 (O9 (f7 (a2n (C6 hu (dv 6) k8)) (f7 (a2n (C6 hu (dv 6) k8)) j6))) j6))))))))))
   (p9 (E2 (O9 (f7 (a1p (dv 0) (dv 1)) (f7 (dv 2) j6))))))))
noncomputable abbrev a88:SM:=(p6 (u6 1 (g9 a0e (w5 [false,false] z6 (c9 (d8 0) (c9 (mC (.int 0)) j5))) (mC (.int 4))))
 (p6 (u6 2 (mC .w6))
 (p6 (ifS (x9 (g9 Z7 (d8 1) (mC (.int 0)))) (p6 (u6 3 (g9 B0 (a0N (c9 (Q8 (c9 (mC (.int 3)) (c9 (mC (.int 2)) j5))) (c9 (Q8 (c9 (mC (.int 2)) (c9 (mC (.int 1)) j5))) (c9 (Q8 (c9 (mC (.int 4)) (c9 (mC (.int 2)) j5))) j5)))) (g9 a0e (w5 [false,false] z6 (c9 (d8 0) (c9 (mC (.int 1)) j5))) (mC (.int 3)))))
 (p6 (u6 4 (w5 [false,false] u7 (c9 (g9 B0 (d8 3) (mC (.int 0))) (c9 (g9 B0 (d8 3) (mC (.int 1))) j5))))
 (u6 2 (mC (.bl false))))) (ifS (x9 (g9 Z7 (d8 1) (mC (.int 1)))) (p6 (u6 3 (g9 B0 (a0N (c9 (Q8 (c9 (mC (.int 2)) (c9 (mC (.int 2)) j5))) (c9 (Q8 (c9 (mC (.int 1)) (c9 (mC (.int 1)) j5))) (c9 (Q8 (c9 (mC (.int 2)) (c9 (mC (.int 3)) j5))) j5)))) (g9 a0e (w5 [false,false] z6 (c9 (d8 0) (c9 (mC (.int 1)) j5))) (mC (.int 3)))))
 (p6 (u6 4 (w5 [false,false] u7 (c9 (g9 B0 (d8 3) (mC (.int 0))) (c9 (g9 B0 (d8 3) (mC (.int 1))) j5))))
 (u6 2 (mC (.bl true))))) (p6 (u6 5 (g9 O8 (mC (.int 5)) (g9 a0e (w5 [false,false] z6 (c9 (d8 0) (c9 (mC (.int 1)) j5))) (mC (.int 2)))))
 (p6 (u6 6 (g9 a0e (w5 [false,false] z6 (c9 (d8 0) (c9 (mC (.int 2)) j5))) (mC (.int 21))))
 (u6 4 (Q8 (c9 (d8 5) (c9 (D9 (a0O ints1 (c9 (d8 6) j5)) (N5 0) N4 (w5 [false,false,false,false] L6 (c9 (d8 1) (c9 (g9 O8 (mC (.int 3)) (g9 a17 (mC (.int 5)) (d8 0))) (c9 (d8 2) (c9 (mC (.int 3)) j5))))) 1 [0,5]) j5))))))))
 (p6 (u6 7 (w5 [false,false] T8 (c9 (g9 B0 (d8 4) (mC (.int 0))) (c9 (E3 a1u (c9 (g9 B0 (d8 4) (mC (.int 1))) j5)) j5))))
 (p6 (ifS (x9 (mUn (fun d=>vB (X7 d)) (g9 B0 (d8 7) (mC (.int 0))))) (retS (a5q (g9 a7P (d8 2) (mC (.bl true))) (g9 isD (w5 [false,false,false] V6 (c9 (g9 B0 (d8 4) (mC (.int 0))) (c9 (g9 B0 (d8 4) (mC (.int 1))) (c9 (g9 B0 (d8 7) (mC (.int 1))) j5)))) (mC (.bl true))))) nxS)
 (p6 (u6 8 (D9 (C9 (g9 B0 (d8 7) (mC (.int 0)))) (N5 0) N4 (E3 L1 (c9 (d8 0) j5)) 1 []))
 (p6 (ifS (mOr (x9 (g9 isD (d8 2) (mC (.bl false)))) (x9 (g9 a69 (E3 a2p (c9 (d8 8) j5)) (E3 a1b (c9 (mC (.int 1)) (c9 (g9 O8 (g9 B0 (d8 4) (mC (.int 0))) (mC (.int 1))) j5)))))) (retS (mC (.bl false))) nxS)
 (retS (E3 b0P (c9 (D9 (C9 (g9 B0 (d8 4) (mC (.int 1)))) (N5 0) N4 (E3 a8j (c9 (D9 (C9 (d8 0)) (N5 0) N4 (g9 inD (d8 0) (g9 B0 (d8 1) (mC (.int 0)))) 1 [1]) j5)) 1 [7]) j5))))))))))
theorem b4H (F:Fun K "law" "law" b1q f fd) (z_range:mg "range"=none) (z_list:mg "list"=none) (z_abs:mg "abs"=none) (z_sorted:mg "sorted"=none) (z_all:mg "all"=none) (z_any:mg "any"=none)
  (h_law_mix:Has P w K mg base 2 "_law_mix" ["_law_script","_law_k"] (Q4 K [false,false] z6))
  (h_law_places:Has P w K mg base 1 "_law_places" ["_law_things","_law_places_here"] (Q4 K [false,false] u7))
  (h_law_clause:Has P w K mg base 3 "_law_clause" ["_law_script","_law_base","_law_variables","_law_most"] (Q4 K [false,false,false,false] L6))
  (h_solved:Has P w K mg base 3 "solved" ["variables","clauses"] (Q4 K [false,false] T8))
  (h_checked:Has P w K mg base 7 "checked" ["variables","clauses","steps"] (Q4 K [false,false,false] V6)):
  B7 P w K mg base X4 8 f fd ["_law_script"] (Q4 K [false] (z9 a88 9 [false])):=
 have nd:=b2y.nd
 a0h (k:=7) F b2y rfl (fun cdv A outer s H E H0 HK G0 L hr=>by
  have hu:=hu8 hr
  exact (k6 (z8 (i:=1) (Z4 (B5 h_law_mix (hr.mono (by decide)) (f7 (dv 0) (f7 k8 j6))) k8) nd)
   (k6 (z8 (i:=2) b3d nd)
   (k6 (V8 (a4p hu (dv 1) k8) (k6 (z8 (i:=3) (C6 hu (a1q (f7 (O9 (f7 k8 (f7 k8 j6))) (f7 (O9 (f7 k8 (f7 k8 j6))) (f7 (O9 (f7 k8 (f7 k8 j6))) j6)))) (Z4 (B5 h_law_mix (hr.mono (by decide)) (f7 (dv 0) (f7 k8 j6))) k8)) nd)
   (k6 (z8 (i:=4) (B5 h_law_places (hr.mono (by decide)) (f7 (C6 hu (dv 3) k8) (f7 (C6 hu (dv 3) k8) j6))) nd)
   (p9 (z8 (i:=2) a0z nd)))) (p9 (V8 (a4p hu (dv 1) k8) (k6 (z8 (i:=3) (C6 hu (a1q (f7 (O9 (f7 k8 (f7 k8 j6))) (f7 (O9 (f7 k8 (f7 k8 j6))) (f7 (O9 (f7 k8 (f7 k8 j6))) j6)))) (Z4 (B5 h_law_mix (hr.mono (by decide)) (f7 (dv 0) (f7 k8 j6))) k8)) nd)
   (k6 (z8 (i:=4) (B5 h_law_places (hr.mono (by decide)) (f7 (C6 hu (dv 3) k8) (f7 (C6 hu (dv 3) k8) j6))) nd)
   (p9 (z8 (i:=2) a0z nd)))) (k6 (z8 (i:=5) (N7 k8 (Z4 (B5 h_law_mix (hr.mono (by decide)) (f7 (dv 0) (f7 k8 j6))) k8)) nd)
   (k6 (z8 (i:=6) (Z4 (B5 h_law_mix (hr.mono (by decide)) (f7 (dv 0) (f7 k8 j6))) k8) nd)
   (p9 (z8 (i:=4) (O9 (f7 (dv 5) (f7 (X8 (a1V [("_law_script",0),("_law_variables",5)] ⟨⟨rfl,rfl,.inl rfl⟩,⟨⟨rfl,rfl,.inl rfl⟩,trivial⟩⟩) (U5 z_range (f7 (dv 6) j6)) (fun _ _ _ _ _ _ _ _ _=>a0H) (fun _ _ _ _ _ _ _ _ _=>(B5 h_law_clause (hr.mono (by decide)) (f7 (dv 1) (f7 (N7 k8 (a1p k8 (dv 0))) (f7 (dv 2) (f7 k8 j6))))))) j6))) nd)))))))
   (k6 (z8 (i:=7) (B5 h_solved (hr.mono (by decide)) (f7 (C6 hu (dv 4) k8) (f7 (a79 rfl z_list (f7 (C6 hu (dv 4) k8) j6)) j6))) nd)
   (k6 (V8 (b7V (C6 hu (dv 7) k8)) (p9 (E2 (b7z (b3W (dv 2) a0z) (b8g (b7q (B5 h_checked (hr.mono (by decide)) (f7 (C6 hu (dv 4) k8) (f7 (C6 hu (dv 4) k8) (f7 (C6 hu (dv 7) k8) j6)))) a0z))))) Q7)
   (k6 (a6p (i:=8) (a1V [] trivial) nd (a0J (C6 hu (dv 7) k8)) (fun _ _ _ _ _ _ _ _ _=>a0H) (fun _ _ _ _ _ _ _ _ _=>(a0G z_abs (f7 (dv 0) j6))))
   (k6 (V8 ((w_or (b8o (dv 2) a0z) (b2a (b3o hu (b2k rfl z_sorted (f7 (dv 8) j6)) (b0O rfl z_list z_range (f7 k8 (f7 (N7 (C6 hu (dv 4) k8) k8) j6))))))).pt (p9 (E2 a0z)) Q7)
   (p9 (E2 (b7L rfl z_all (f7 (X8 (a1V [("_law_found",7)] ⟨⟨rfl,rfl,.inl rfl⟩,trivial⟩) (a0J (C6 hu (dv 4) k8)) (fun _ _ _ _ _ _ _ _ _=>a0H) (fun _ _ _ _ _ _ _ _ _=>(b5u rfl z_any (f7 (X8 (a1V [("_law_found",1)] ⟨⟨rfl,rfl,.inl rfl⟩,trivial⟩) (a0J (dv 0)) (fun _ _ _ _ _ _ _ _ _=>a0H) (fun _ _ _ _ _ _ _ _ _=>(b7H hu (dv 0) (C6 hu (dv 1) k8)))) j6)))) j6))))))))))))
end
theorem a6T {ρ:k9}:a5O ρ=some (.ok (.own (.dct [])) ρ):=rfl
theorem a8s (ns:List Int):intsOf (ns.map D.int)=some ns:=by
 induction ns with
 | nil=>rfl
 | cons n r ih=>simp [intsOf,ih]
theorem a9L {α β:Type}(f:α→β)(xs:List α)(i:Int):L2.atI (xs.map f) i=(L2.atI xs i).map f:=by
 unfold L2.atI
 rw [List.length_map]
 cases ixN xs.length i with
 | none=>rfl
 | some j=>simp
theorem b1w {ns:List Int}{k:Int}(h:ns≠[]):L2.atI ns (k % (ns.length:Int))=some (a3a ns k):=by
 have q:=b4L (ns:=ns) (k:=k) h
 rw [a9L,List.length_map] at q
 cases e:L2.atI ns (k % (ns.length:Int)) with
 | none=>rw [e] at q; cases q
 | some v=>
  rw [e] at q
  have:V.int v=V.int (a3a ns k):=Option.some.inj q
  injection this with z
  rw [z]
theorem F4 (ns:List Int):(ns.map D.int).all Q6=true:=by
 rw [List.all_map,List.all_eq_true]
 intro x _
 rfl
theorem b4U {ns:List Int}{k:Int}:W7 [.lst (ns.map D.int),.int k]=some (.ret (.val (.int (a3a ns k))) []):=by
 show z9 S9 2 [false,false] _=_
 cases ns with
 | nil=>rfl
 | cons n r=>
  have q:B0 (.lst ((n::r).map D.int)) (.int (k % ((((n::r).map D.int).length:Nat):Int)))=some (.val (.int (a3a (n::r) k))):=by
   show (L2.atI _ _).map _=_
   rw [List.length_map,a9L,b1w (List.cons_ne_nil _ _)]
   rfl
  exact K8 (X6 (M9 (Y5 (d7 rfl) rfl rfl) rfl (E7 (i7 (d7 rfl) (i7 (d7 rfl) (C4 (d9 (d7 rfl) j4) rfl rfl) rfl rfl (M3 (Int.ofNat_lt.mpr (Nat.succ_pos _)))) rfl rfl q) rfl))) rfl
theorem a2C {ns:List Int}{k:Int}:z6 [.lst (ns.map D.int),.int k]=some (.ret (.val (.int (A8 ns k))) []):=
 K8 (den:=W5) (n:=3) (ms:=[false,false]) (i8 (r8 (i7 (i7 (G8 (d9 (d7 rfl) (d9 (d7 rfl) j4)) rfl rfl b4U rfl rfl) (i7 l8 (i7 (d7 rfl) l8 rfl rfl rfl) rfl rfl (a1f (.inl ⟨by decide,by decide⟩))) rfl rfl rfl) l8 rfl rfl (M3 (by decide))) rfl) (i8 (r8 (i7 (i7 (d7 rfl) l8 rfl rfl (a1f (.inr ⟨by decide,by decide⟩))) l8 rfl rfl (M3 (by decide))) rfl) (E7 (i7 (i7 (i7 (i7 (d7 rfl) l8 rfl rfl (a6P ⟨by decide,by decide⟩)) l8 rfl rfl (a1f (.inr ⟨by decide,by decide⟩))) (d7 rfl) rfl rfl rfl) l8 rfl rfl (M3 (by decide))) rfl))) rfl
theorem A9 {n:Nat}(h:n≤100000):small n:=by unfold small; omega
theorem b1f (l:Int)(acc:List Int):inL (.int l) (acc.map D.int)=some (decide (l∈acc)):=by
 induction acc with
 | nil=>rfl
 | cons a r ih=>
  show (match eqD 7 (.int a) (.int l),inL (.int l) (r.map D.int) with | some a,some b=>some (a || b) | _,_=>none)=_
  rw [ih]
  show some ((a == l) || decide (l∈r))=_
  by_cases h:l=a
  ·simp [h]
  ·have h':¬ a=l:=fun e=>h e.symm
   simp [h,h']
theorem b59 (l:Int)(c:List Int):inD (.int l) (.tup (c.map D.int))=some (.val (.bl (decide (l∈c)))):=by
 show (inL (.int l) (c.map D.int)).bind _=_
 rw [b1f]
 rfl
theorem b2Z (bs:List Bool):Z6 (bs.map D.bl)=some bs:=by
 induction bs with
 | nil=>rfl
 | cons b r ih=>
  show (Z6 (r.map D.bl)).map _=_
  rw [ih]
  rfl
theorem b4a (bs:List Bool):b0P [.lst (bs.map D.bl)]=some (.val (.bl (bs.all id))):=by
 show (Z6 _).bind _=_
 rw [b2Z]
 rfl
theorem a9x (bs:List Bool):a8j [.lst (bs.map D.bl)]=some (.val (.bl (bs.any id))):=by
 show (Z6 _).bind _=_
 rw [b2Z]
 rfl
theorem a70 (bs:List Bool):(bs.map D.bl).all Q6=true:=by
 rw [List.all_map,List.all_eq_true]
 intro x _
 rfl
theorem a3R {i:Nat}{mr:M (List W)}{w:W}{d:D}{ds:List D}{ρ ρ1 ρ2 ρ3:k9}{l:Bool}{ds0:List D}(h0:ρ[i]?=some (some (.ow l (.lst ds0))))(ha:mr ρ=some (.ok [w] ρ1))(hl:D3 w ρ1=some (.ok d ρ2))(h1:ρ2[i]?=some (some (.ow l (.lst ds))))(hz:small ds.length)(hs:ρ2.set i (some (.ow l (.lst (ds++[d]))))=ρ3):V0 (O5 i mr) ρ=some (.nx ρ3):=by
 subst hs
 exact a3O (b0K h0 ha hl h1 hz)
theorem eq_int (a b:Int):Z7 (.int a) (.int b)=some (.val (.bl (decide (a=b)))):=by
 show some (W.val (.bl (a == b)))=_
 by_cases h:a=b <;> simp [h]
section
variable {tg:FT}{mt:M Bool}{me:M W}{ρ ρ1 ρ2 ρ3 ρ4:k9}{d y:D}{w:W}
theorem turn_if {k:Bool}(h1:tg d ρ=some ρ1)(h2:mt ρ1=some (.ok k ρ2))(h3:k=true→∃ w ρ3 ρ4,me ρ2=some (.ok w ρ3)∧D3 w ρ3=some (.ok y ρ4)):compTurn tg mt me ρ d=some (if k=true then some y else none):=by
 cases k with
 | true=>
  refine D0 (h3 rfl) fun w ρ3 ρ4 a b=>?_
  exact a6V h1 h2 a b
 | false=>exact b3J h1 h2
theorem a2W {α:Type}{f g:α→D}{t:α→Bool}{xs:List α}(h:∀ x∈xs,compTurn tg mt me ρ (f x)=some (if t x=true then some (g x) else none)):K6 tg mt me ρ (xs.map f)=some ((xs.filter t).map g):=by
 induction xs with
 | nil=>rfl
 | cons x r ih=>
  have h1:=h x List.mem_cons_self
  have ih:=ih fun y hy=>h y (List.mem_cons_of_mem _ hy)
  rw [List.map_cons]
  unfold K6
  rw [h1]
  cases hx:t x with
  | true=>rw [List.filter_cons_of_pos hx,ih]; rfl
  | false=>rw [List.filter_cons_of_neg (by rw [hx]; decide),ih]; rfl
theorem O0 {α:Type}{f g:α→D}{xs:List α}(h:∀ x∈xs,∃ ρ1 w ρ2 ρ3,tg (f x) ρ=some ρ1∧me ρ1=some (.ok w ρ2)∧D3 w ρ2=some (.ok (g x) ρ3)):K6 tg N4 me ρ (xs.map f)=some (xs.map g):=by
 have:=a2W (tg:=tg) (mt:=N4) (me:=me) (ρ:=ρ) (f:=f) (g:=g) (t:=fun _=>true) (xs:=xs) (fun x hx=>by
  refine a0W (h x hx) fun ρ1 w ρ2 ρ3 a b c=>?_
  exact a6V a rfl b c)
 rw [this,List.filter_eq_self.mpr (fun _ _=>rfl)]
end
theorem a4n (cs:List (List Int)):(J2 cs).length=cs.length:=List.length_map _
theorem T6 (c:List Int):Q6 (.tup (c.map D.int))=true:=by
 show (c.map D.int).all (a2r 5)=true
 rw [List.all_map,List.all_eq_true]
 intro x _
 rfl
theorem b1i (cs:List (List Int)):(J2 cs).all Q6=true:=by
 unfold J2
 rw [List.all_map,List.all_eq_true]
 intro c _
 exact T6 c
theorem a7J (n:Nat)(a b:Int):eqD n (.int a) (.int b)=some (decide (a=b)):=by
 have:eqF (.int a) (.int b)=some (decide (a=b)):=by
  show some (a == b)=_
  by_cases h:a=b <;> simp [h]
 cases n <;> exact this
theorem a5B (n:Nat):∀ a b:List Int,eqL (eqD n) (a.map D.int) (b.map D.int)=some (decide (a=b))
 | [],[]=>by simp [eqL]
 | [],_::_=>by simp [eqL]
 | _::_,[]=>by simp [eqL]
 | x::r,y::t=>by
  show (match eqD n (.int x) (.int y),eqL (eqD n) (r.map D.int) (t.map D.int) with | some a,some b=>some (a && b) | _,_=>none)=_
  rw [a7J,a5B n r t]
  by_cases h1:x=y <;> by_cases h2:r=t <;> simp [h1,h2]
theorem a9p {α:Type}{f:α→D}{xs:List α}{n:Int}(hn:n=(xs.length:Int))(h:xs≠[])(k:Int):∃ x,x∈xs∧B0 (.lst (xs.map f)) (.int (k % n))=some (.val (f x)):=by
 have hp:0 < xs.length:=List.length_pos_iff.mpr h
 have h1:=Int.emod_nonneg k (b:=n) (by omega)
 have h2:=Int.emod_lt_of_pos k (b:=n) (by omega)
 obtain ⟨j,hj⟩:∃ j:Nat,k % n=(j:Int):=⟨(k % n).toNat,by omega⟩
 have hl:j < xs.length:=by omega
 refine ⟨xs[j],List.getElem_mem hl,?_⟩
 rw [hj]
 show (L2.atI (xs.map f) (j:Int)).map W.val=_
 rw [a56 (v:=f xs[j]) (by rw [List.getElem?_map,List.getElem?_eq_getElem hl]; rfl)]
 rfl
theorem b3Q (m x most:Int)(hx:x=m / 6 % (most + 1)):B0 (.lst [.int 1,.int 2,.int 3,.int 2,.int 3,.int x]) (.int (m % 6))=some (.val (.int (sizeV m most))):=by
 have h:m % 6=0∨m % 6=1∨m % 6=2∨m % 6=3∨m % 6=4∨m % 6=5:=by omega
 unfold sizeV
 subst hx
 rcases h with h | h | h | h | h | h <;> rw [h] <;> rfl
theorem b39 (m most:Int)(h:0≤most):0≤sizeV m most:=by
 unfold sizeV
 have:=Int.emod_nonneg (m / 6) (b:=most + 1) (by omega)
 split <;> (try split) <;> (try split) <;> (try split) <;> (try split) <;> omega
theorem a9q (m most:Int)(h:0≤most):sizeV m most≤most + 3:=by
 unfold sizeV
 have:=Int.emod_lt_of_pos (m / 6) (b:=most + 1) (by omega)
 split <;> (try split) <;> (try split) <;> (try split) <;> (try split) <;> omega
noncomputable def clE (ns:List Int)(b v most n S:Int)(F:List Int)(o7 o8:Option C):k9:=[some (.sh (.lst (ns.map D.int))),some (.sh (.int b)),some (.sh (.int v)),some (.sh (.int most)),some (.sh (.int n)),some (.sh (.int S)),some (.ow false (.lst (F.map D.int))),o7,o8]
theorem a9O {ns:List Int}{b v most n S:Int}(h1:0 < v)(h2:v < 1000):∀ (m k:Nat) (o7 o8:Option C),m + k≤2000→∃ p7 p8,forL (N5 7) a0I ((List.range' k m).map fun j=>D.int (0 + ((j:Nat):Int))) (clE ns b v most n S ((List.range k).map fun (j:Nat)=>a7a (A8 ns (b + 1 + (j:Int))) v) o7 o8)=some (.nx (clE ns b v most n S ((List.range (m + k)).map fun (j:Nat)=>a7a (A8 ns (b + 1 + (j:Int))) v) p7 p8))
 | 0,k,o7,o8,_=>⟨o7,o8,by rw [Nat.zero_add]; rfl⟩
 | m + 1,k,o7,o8,h=>by
  obtain ⟨p7,p8,ih⟩:=a9O h1 h2 m (k + 1) (some (.sh (.int (k:Int)))) (some (.sh (.int (A8 ns (b + 1 + (k:Int)))))) (by omega)
  refine ⟨p7,p8,?_⟩
  rw [List.range'_succ,List.map_cons,Int.zero_add,Nat.add_right_comm m 1 k]
  rw [show m + (k + 1)=m + k + 1 from rfl] at ih
  refine U7 rfl (i8 (ρ1:=clE ns b v most n S ((List.range k).map fun (j:Nat)=>a7a (A8 ns (b + 1 + (j:Int))) v) (some (.sh (.int (k:Int)))) (some (.sh (.int (A8 ns (b + 1 + (k:Int))))))) (r8 (G8 (d9 (d7 rfl) (d9 (i7 (i7 (d7 rfl) l8 rfl rfl rfl) (d7 rfl) rfl rfl rfl) j4)) rfl rfl a2C rfl rfl) rfl) ?_) ih
  have l0:=Int.emod_nonneg (A8 ns (b + 1 + (k:Int)) / 2) (Int.ne_of_gt h1)
  have l1:=Int.emod_lt_of_pos (A8 ns (b + 1 + (k:Int)) / 2) h1
  refine a3R rfl (d9 (i7 (i7 l8 (i7 (i7 (d7 rfl) l8 rfl rfl (a6P ⟨by decide,by decide⟩)) (d7 rfl) rfl rfl (M3 h1)) rfl rfl rfl) (i7 l8 (i7 l8 (i7 (d7 rfl) l8 rfl rfl (M3 (by decide))) rfl rfl (a1f (.inl ⟨by decide,by decide⟩))) rfl rfl rfl) rfl rfl (a1f (.inl ⟨by omega,by omega⟩))) j4) rfl rfl (A9 (by rw [List.length_map,List.length_map,List.length_range]; omega)) ?_
  unfold clE
  rw [List.range_succ,List.map_append,List.map_append]
  rfl
theorem b0V {ns:List Int}{b v most:Int}(h1:0 < v)(h2:v < 1000)(h3:0≤most)(h4:most < 1000):L6 [.lst (ns.map D.int),.int b,.int v,.int most]=some (.ret (.val (.tup ((a0D ns b v most).map D.int))) []):=by
 show z9 N6 9 [false,false,false,false] _=_
 have hsz:=b3Q (A8 ns b) (A8 ns b / 6 % (most + 1)) most rfl
 have hlo:=b39 (A8 ns b) most h3
 have hhi:=a9q (A8 ns b) most h3
 unfold a0D
 generalize sizeV (A8 ns b) most=S at *
 have hi:ints1 [.int S]=some ((List.range S.toNat).map fun k=>D.int (0 + ((k:Nat):Int))):=A4 ⟨by omega,by omega⟩
 refine A6 (a9O (ns:=ns) (b:=b) (most:=most) (n:=A8 ns b) (S:=S) h1 h2 S.toNat 0 none none (by omega)) fun p7 p8 hl=>?_
 rw [← List.range_eq_range'] at hl
 exact K8 (i8 (r8 (G8 (d9 (d7 rfl) (d9 (d7 rfl) j4)) rfl rfl a2C rfl rfl) rfl) (i8 (r8 (i7 (U3 (d9 l8 (d9 l8 (d9 l8 (d9 l8 (d9 l8 (d9 (i7 (i7 (d7 rfl) l8 rfl rfl (a6P ⟨by decide,by decide⟩)) (i7 (d7 rfl) l8 rfl rfl rfl) rfl rfl (M3 (by omega))) j4)))))) rfl (Nat.le_of_ble_eq_true rfl)) (i7 (d7 rfl) l8 rfl rfl (M3 (by decide))) rfl rfl hsz) rfl) (i8 (r8 (U3 j4 rfl (Nat.le_of_ble_eq_true rfl)) rfl) (i8 (a2S (a8A (d9 (d7 rfl) j4) rfl hi) hl) (E7 (C4 (d9 (d7 rfl) j4) rfl rfl) rfl))))) rfl
noncomputable def keyed (acc:List Int):List (Key×D):=acc.map fun l=>(.inl l,.bl true)
theorem a2a (ts:List (Int×Int))(k:Int):J3 (l7 ts) (.inl k)=(l5 ts k).map D.int:=by
 induction ts with
 | nil=>rfl
 | cons t r ih=>
  unfold J3 l5 l7 at *
  rw [List.map_cons,List.find?_cons,List.find?_cons]
  by_cases h:t.1=k
  ·simp [h]
  ·have h2:decide ((Sum.inl t.1:Key)=Sum.inl k)=false:=by simp [h]
   simp only [h2,decide_eq_false h]
   exact ih
theorem a5u (acc:List Int)(k:Int):(J3 (keyed acc) (.inl k)).isSome=decide (k∈acc):=by
 induction acc with
 | nil=>rfl
 | cons t r ih=>
  unfold J3 keyed at *
  rw [List.map_cons,List.find?_cons]
  by_cases h:t=k
  ·simp [h]
  ·have h':¬ k=t:=fun e=>h e.symm
   have h2:decide ((Sum.inl t:Key)=Sum.inl k)=false:=by simp [h]
   simp only [h2]
   rw [ih]
   simp [h']
theorem b3S {ts:List (Int×Int)}{k j:Int}:a69 ((J3 (l7 ts) (.inl k)).getD .w6) (.int j)=some (.val (.bl (decide (l5 ts k≠some j)))):=by
 rw [a2a]
 cases l5 ts k with
 | none=>rfl
 | some v=>
  show some (W.val (.bl (!(v == j))))=_
  by_cases h:v=j <;> simp [h]
theorem a5j (acc:List Int)(l:Int):putD (keyed acc) (.inl l) (.bl true)=keyed (P7 acc l):=by
 unfold putD P7
 by_cases h:l∈acc
 ·rw [if_pos h,if_pos (by simp [keyed,h])]
  unfold keyed
  rw [List.map_map]
  apply List.map_congr_left
  intro x _
  simp
 ·rw [if_neg h,if_neg (by simpa [keyed] using h)]
  simp [keyed]
theorem a4m (acc:List Int)(l:Int):(P7 acc l).length≤acc.length + 1:=by unfold P7; split <;> simp
theorem a9E {ρ:k9}{i:Nat}{acc:List Int}{l:Int}(h:ρ[i]?=some (some (.ow false (.dct (keyed acc)))))(hz:acc.length≤1000):a0X i (.int l) (.bl true) ρ=some (.nx (ρ.set i (some (.ow false (.dct (keyed (P7 acc l))))))):=by
 unfold a0X
 rw [h,← a5j]
 exact A4 (by unfold small; rw [show (keyed acc).length=acc.length from List.length_map _]; omega)
noncomputable def opE (ts:List (Int×Int))(ls acc:List Int)(o3:Option C):k9:=[some (.sh (.dct (l7 ts))),some (.sh (.tup (ls.map D.int))),some (.ow false (.dct (keyed acc))),o3]
theorem a57 {ts:List (Int×Int)}{ls:List Int}:∀ (rest acc:List Int) (o3:Option C),acc.length + rest.length≤1000→∃ p3,forL (N5 3) a3k (rest.map D.int) (opE ts ls acc o3)=some (.nx (opE ts ls (rest.foldl (a2b ts) acc) p3))
 | [],acc,o3,_=>⟨o3,rfl⟩
 | l::rest,acc,o3,hz=>by
  rw [List.length_cons] at hz
  have hn:=b3S (ts:=ts) (k:=l.natAbs) (j:=-l)
  have c:x9 (g9 a69 (a67 (d8 0) (E3 L1 (c9 (d8 3) j5))) (mUn a0U (d8 3))) (opE ts ls acc (some (.sh (.int l))))=some (.ok (decide (l5 ts l.natAbs≠some (-l))) (opE ts ls acc (some (.sh (.int l))))):=A0 (i7 (b40 (d7 rfl) rfl (C4 (d9 (d7 rfl) j4) rfl rfl) rfl rfl rfl) (a0Y (d7 rfl) rfl rfl) rfl rfl hn)
  rw [List.foldl_cons]
  by_cases hc:l5 ts l.natAbs=some (-l)
  ·obtain ⟨p3,ih⟩:=a57 rest acc (some (.sh (.int l))) (by omega)
   rw [show a2b ts acc l=acc from if_pos hc]
   exact ⟨p3,U7 rfl (A7 c (decide_eq_false fun z=>z hc) P4) ih⟩
  ·have al:=a4m acc l
   obtain ⟨p3,ih⟩:=a57 rest (P7 acc l) (some (.sh (.int l))) (by omega)
   rw [show a2b ts acc l=P7 acc l from if_neg hc]
   exact ⟨p3,U7 rfl (M9 c (decide_eq_true hc) (a2N l8 rfl (d7 rfl) rfl rfl (a9E rfl (by omega)))) ih⟩
theorem a5C {ts:List (Int×Int)}{ls:List Int}(h:ls.length≤1000):P5 [.dct (l7 ts),.tup (ls.map D.int)]=some (.ret (.own (.lst ((y9 ts ls).map D.int))) []):=by
 show z9 a0p 4 [false,false] _=_
 refine g8 (a57 (ts:=ts) (ls:=ls) ls [] none (by rw [List.length_nil]; omega)) fun p3 hl=>?_
 have hd:a1u [.dct (keyed (y9 ts ls))]=some (.own (.lst ((y9 ts ls).map D.int))):=by
  show some (W.own (.lst ((keyed _).map fun e=>a24 e.1)))=_
  unfold keyed
  rw [List.map_map]
  rfl
 exact K8 (i8 (r8 a6T rfl) (i8 (a2S (M0 (d7 rfl) rfl rfl) hl) (E7 (C4 (d9 (d7 rfl) j4) rfl hd) rfl))) rfl
theorem a9G (L:List D):∀ (ls acc:List Int) (o:Option C),acc.length + ls.length≤1000→(∀ l∈acc,0 < l)→(∀ l∈ls,0 < l)→∃ b c,forL (N5 2) a1s (ls.map D.int) [some (.sh (.tup L)),some (.ow false (.dct (keyed acc))),o]=some (.nx [some (.sh (.tup L)),b,c])
 | [],acc,o,_,_,_=>⟨_,_,rfl⟩
 | l::ls,acc,o,hz,ha,hp=>by
  rw [List.length_cons] at hz
  have al:=a4m acc l
  have hl:=hp l List.mem_cons_self
  have hn:-l∉acc:=fun z=>by have:=ha _ z; omega
  obtain ⟨b,c,ih⟩:=a9G L ls (P7 acc l) (some (.sh (.int l))) (by omega) (fun x hx=>by
   unfold P7 at hx
   split at hx
   ·exact ha x hx
   ·refine Or.elim (List.mem_append.mp hx) (fun hx=>?_) fun hx=>?_
    ·exact ha x hx
    ·rw [List.mem_singleton.mp hx]; exact hl) fun x hx=>hp x (List.mem_cons_of_mem _ hx)
  have hin:inD (.int (-l)) (.dct (keyed acc))=some (.val (.bl false)):=by
   show some (W.val (.bl (J3 (keyed acc) (.inl (-l))).isSome))=_
   rw [a5u,decide_eq_false hn]
  exact ⟨b,c,U7 rfl (i8 (A7 (A0 (i7 (a0Y (d7 rfl) rfl rfl) (d7 rfl) rfl rfl hin)) rfl P4) (a2N l8 rfl (d7 rfl) rfl rfl (a9E rfl (by omega)))) ih⟩
theorem b3C {ls:List Int}(h:ls.length≤1000)(hp:∀ l∈ls,0 < l):W4 [.tup (ls.map D.int)]=some (.ret (.val (.bl false)) []):=by
 show z9 S4 3 [false] _=_
 refine A6 (a9G (ls.map D.int) ls [] none (by rw [List.length_nil]; omega) (fun _ z=>nomatch z) hp) fun b c hl=>?_
 exact K8 (i8 (r8 a6T rfl) (i8 (a2S (M0 (d7 rfl) rfl rfl) hl) (E7 l8 rfl))) rfl
theorem a6W (ts:C2)(k v:Int):putD (l7 ts) (.inl k) (.int v)=l7 (E4 ts k v):=by
 unfold putD E4 l7
 have e:((ts.map fun kv=>((Sum.inl kv.1:Key),D.int kv.2)).any fun kv=>decide (kv.1=Sum.inl k))=ts.any fun kv=>decide (kv.1=k):=by
  rw [List.any_map]
  congr 1
  funext kv
  simp
 rw [e]
 split
 ·rw [List.map_map,List.map_map]
  refine List.map_congr_left fun kv _=>?_
  by_cases h:kv.1=k
  ·simp [h]
  ·simp [h]
 ·simp
theorem a06 (ts:C2)(k v:Int):(E4 ts k v).length≤ts.length + 1:=by
 unfold E4
 split
 ·simp
 ·simp
theorem b1P (ls:List Int):∀ ts:C2,a1o (l7 ts) (ls.map fun l=>((Sum.inl (t8 l):Key),D.int l))=l7 (ls.foldl (fun ts l=>E4 ts (t8 l) l) ts):=by
 induction ls with
 | nil=>intro ts; rfl
 | cons l r ih=>
  intro ts
  show a1o (putD (l7 ts) (.inl (t8 l)) (.int l)) _=_
  rw [a6W,ih]
  rfl
theorem a8h (ls:List Int):S0 (ls.map fun l=>D.tup [.int (t8 l),.int l])=some (ls.map fun l=>((Sum.inl (t8 l):Key),D.int l)):=by
 induction ls with
 | nil=>rfl
 | cons l r ih=>
  show (pairD (.tup [.int (t8 l),.int l])).bind _=_
  show (S0 _).map _=_
  rw [ih]
  rfl
theorem a5N {ls:List Int}(h:ls.length≤1000):E8 [.lst (ls.map D.int)]=some (.ret (.own (.dct (l7 (B8 ls)))) []):=by
 show z9 Q3 1 [false] _=_
 have hc:K6 (N5 0) N4 (Q8 (c9 (E3 L1 (c9 (d8 0) j5)) (c9 (d8 0) j5))) [none] (ls.map D.int)=some (ls.map fun l=>D.tup [.int (t8 l),.int l]):=O0 fun l _=>⟨[some (.sh (.int l))],.val (.tup [.int (t8 l),.int l]),[some (.sh (.int l))],[some (.sh (.int l))],rfl,O7 (d9 (C4 (d9 (d7 rfl) j4) rfl rfl) (d9 (d7 rfl) j4)) rfl (Nat.le_of_ble_eq_true rfl),rfl⟩
 have hm:=O6 (mi:=C9 (d8 0)) (ρ:=A1 1 [false] [.lst (ls.map D.int)]) (ρ1:=A1 1 [false] [.lst (ls.map D.int)]) (own:=1) (fr:=[]) (M0 (d7 rfl) rfl rfl) (A9 (by rw [List.length_map]; omega)) hc (.inl (by rw [List.all_map,List.all_eq_true]; exact fun _ _=>rfl))
 have hd:a0y [.lst (ls.map fun l=>D.tup [.int (t8 l),.int l])]=some (.own (.dct (l7 (B8 ls)))):=by
  show (S0 _).map _=_
  rw [a8h]
  show some (W.own (.dct (a1o (l7 []) _)))=_
  rw [b1P]
  rfl
 exact K8 (E7 (C4 (d9 hm j4) rfl hd) rfl) rfl
theorem T4 (ts:C2):a0d (.dct (l7 ts))=true:=by
 show (l7 ts).all _=true
 unfold l7
 rw [List.all_map,List.all_eq_true]
 intro x _
 rfl
theorem a7v (T:Tab)(k:Int):J3 (v5 T) (.inl k)=(I9 T k).map fun c=>D.tup (c.map D.int):=by
 induction T with
 | nil=>rfl
 | cons t r ih=>
  unfold J3 I9 v5 at *
  rw [List.map_cons,List.find?_cons,List.find?_cons]
  by_cases h:t.1=k
  ·simp [h]
  ·have h2:decide ((Sum.inl t.1:Key)=Sum.inl k)=false:=by simp [h]
   simp only [h2,decide_eq_false h]
   exact ih
theorem a5V {T:Tab}(h:okT T=true):T.length≤600∧∀ kv∈T,kv.2.length≤1000:=by
 unfold okT at h
 simp only [Bool.and_eq_true,decide_eq_true_eq,List.all_eq_true] at h
 exact h
theorem Z5 {T:Tab}{k:Int}{c:List Int}(h:I9 T k=some c):(k,c)∈T:=by
 unfold I9 at h
 cases e:T.find? fun kv=>decide (kv.1=k) with
 | none=>rw [e] at h; cases h
 | some kv=>
  rw [e] at h
  have h1:=List.mem_of_find?_eq_some e
  have h2:=List.find?_some e
  simp at h2 h
  rw [← h2,← h]
  exact h1
theorem b4A (T:Tab)(h:Int):S2 (.int h) (.dct (v5 T))=some (.val (.bl (!(I9 T h).isSome))):=by
 show vB (!(J3 (v5 T) (.inl h)).isSome)=_
 rw [a7v]
 cases I9 T h <;> rfl
theorem a6z {T:Tab}{h:Int}{c:List Int}(e:I9 T h=some c):B0 (.dct (v5 T)) (.int h)=some (.val (.tup (c.map D.int))):=by
 show (J3 (v5 T) (.inl h)).map _=_
 rw [a7v,e]
 rfl
theorem b1Y (ts:C2)(k:Int):inD (.int k) (.dct (l7 ts))=some (.val (.bl (l5 ts k).isSome)):=by
 show vB (J3 (l7 ts) (.inl k)).isSome=_
 rw [a2a]
 cases l5 ts k <;> rfl
theorem a6q (ls:List Int):Z7 (.lst (ls.map D.int)) (.lst [])=some (.val (.bl ls.isEmpty)):=by cases ls <;> rfl
theorem a5F (ls:List Int):(a5y (.own (.lst (ls.map D.int))) && ([]:List D).all a0d)=true:=by
 show (List.all _ _ && true)=true
 rw [F4]
 rfl
theorem a00:∀ (cs:List (List Int)) (k:Int),(v7 k cs).length=cs.length
 | [],_=>rfl
 | c::cs,k=>by show (v7 (k + 1) cs).length + 1=_; rw [a00 cs]; rfl
theorem Q9:∀ (cs:List (List Int)) (k:Int) (kv:Int×List Int),kv∈v7 k cs→k≤kv.1∧kv.1 < k + cs.length∧kv.2∈cs
 | c::cs,k,kv,h=>by
  rcases List.mem_cons.mp h with rfl | h
  ·exact ⟨Int.le_refl _,by simp only [List.length_cons]; omega,List.mem_cons_self⟩
  ·refine n8 (Q9 cs (k + 1) kv h) fun a b d=>?_
   exact ⟨by omega,by simp only [List.length_cons]; omega,List.mem_cons_of_mem _ d⟩
theorem a0x:∀ (cs:List (List Int)) (k:Int),((v7 k cs).map (·.1)).Nodup
 | [],_=>List.nodup_nil
 | c::cs,k=>by
  show (k::(v7 (k + 1) cs).map (·.1)).Nodup
  rw [List.nodup_cons]
  refine ⟨fun h=>?_,a0x cs (k + 1)⟩
  refine c6 (List.mem_map.mp h) fun kv hm e=>?_
  have:=(Q9 cs (k + 1) kv hm).1
  omega
theorem a2B (c:List Int):∀ (cs:List (List Int)) (k:Int),v7 k (cs++[c])=v7 k cs++[(k + cs.length,c)]
 | [],k=>by show [(k,c)]=[(k + ((0:Nat):Int),c)]; rw [show k + ((0:Nat):Int)=k by omega]
 | d::cs,k=>by
  show (k,d)::v7 (k + 1) (cs++[c])=(k,d)::(v7 (k + 1) cs++[(k + ((cs.length + 1:Nat):Int),c)])
  rw [a2B c cs (k + 1),show k + 1 + (cs.length:Int)=k + ((cs.length + 1:Nat):Int) by omega]
theorem a7Y:∀ (cs:List (List Int)) (k:Int),b0F k (J2 cs)=v5 (v7 k cs)
 | [],_=>rfl
 | c::cs,k=>by
  show (Sum.inl k,D.tup (c.map D.int))::b0F (k + 1) (J2 cs)=_
  rw [a7Y cs]
  rfl
theorem a6b {T:Tab}{k:Int}{c:List Int}(h:∀ kv∈T,kv.1≠k):putD (v5 T) (.inl k) (.tup (c.map D.int))=v5 (T++[(k,c)]):=by
 unfold putD
 rw [if_neg]
 ·unfold v5; rw [List.map_append]; rfl
 ·intro e
  refine c6 (List.any_eq_true.mp e) fun x hx hk=>?_
  unfold v5 at hx
  refine c6 (List.mem_map.mp hx) fun kv hm Z1=>?_; subst Z1
  exact h kv hm (Sum.inl.inj (of_decide_eq_true hk))
theorem a9c:∀ (U T:Tab),((T++U).map (·.1)).Nodup→a1o (v5 T) (v5 U)=v5 (T++U)
 | [],T,_=>by rw [List.append_nil]; rfl
 | kv::U,T,h=>by
  have hk:∀ x∈T,x.1≠kv.1:=fun x hx e=>by
   rw [List.map_append,List.map_cons,List.nodup_append] at h
   exact h.2.2 x.1 (List.mem_map_of_mem hx) kv.1 List.mem_cons_self e
  show a1o (putD (v5 T) (.inl kv.1) (.tup (kv.2.map D.int))) (v5 U)=_
  rw [a6b hk,a9c U (T++[(kv.1,kv.2)]) (by rw [List.append_assoc]; exact h),List.append_assoc]
  rfl
theorem a28 {cs:List (List Int)}(h:cs.length≤1000):J1 [.lst (J2 cs)]=some (.ret (.own (.dct (v5 (v7 1 cs)))) []):=by
 show z9 S8 1 [false] _=_
 have e1:a9v [.lst (J2 cs)]=some (.own (.dct (v5 (v7 1 cs)))):=by
  show grd _ (some (W.own (.dct (a1o (v5 []) (b0F 1 (J2 cs))))))=_
  rw [a7Y,a9c (v7 1 cs) [] (by rw [List.nil_append]; exact a0x cs 1),List.nil_append]
  exact A4 (by rw [a4n]; omega)
 exact K8 (E7 (C4 (d9 (d7 rfl) j4) rfl e1) rfl) rfl
theorem keys_map (T:Tab):((v5 T).map fun e=>a24 e.1)=(T.map (·.1)).map D.int:=by
 unfold v5
 rw [List.map_map,List.map_map]
 rfl
theorem a6u {T:Tab}(hd:(T.map (·.1)).Nodup){kv:Int×List Int}(h:kv∈T):I9 T kv.1=some kv.2:=by
 induction T with
 | nil=>cases h
 | cons t r ih=>
  rw [List.map_cons,List.nodup_cons] at hd
  unfold I9 at *
  rw [List.find?_cons]
  rcases List.mem_cons.mp h with rfl | h
  ·simp
  ·have:t.1≠kv.1:=fun e=>hd.1 (by rw [e]; exact List.mem_map_of_mem h)
   simp only [decide_eq_false this]
   exact ih hd.2 h
theorem a9g (ts:C2)(k:Int):S2 (.int k) (.dct (l7 ts))=some (.val (.bl (!(l5 ts k).isSome))):=by
 show vB (!(J3 (l7 ts) (.inl k)).isSome)=_
 rw [a2a]
 cases l5 ts k <;> rfl
theorem a8z {ts:C2}{k l:Int}(h:l5 ts k=some l):B0 (.dct (l7 ts)) (.int k)=some (.val (.int l)):=by
 show (J3 (l7 ts) (.inl k)).map _=_
 rw [a2a,h]
 rfl
theorem a7b (hs:List Int):a1T [.lst (hs.map D.int)]=some (.val (.int (hs.length:Nat))):=by
 show some (W.val (.int _))=_
 rw [List.length_map]
theorem b2o (ts:C2):(l7 ts).length=ts.length:=List.length_map _
noncomputable def srE (T:Tab)(ts rs:C2)(g:Bool)(o4 o5:Option C):k9:=[some (.fz (v5 T)),some (.ow true (.dct (l7 ts))),some (.ow true (.dct (l7 rs))),some (.sh (.bl g)),o4,o5]
theorem a8t {ρ:k9}{i:Nat}{l:Bool}{ts:C2}{k v:Int}(h:ρ[i]?=some (some (.ow l (.dct (l7 ts)))))(hz:ts.length≤100000):a0X i (.int k) (.int v) ρ=some (.nx (ρ.set i (some (.ow l (.dct (l7 (E4 ts k v))))))):=by
 unfold a0X
 rw [h]
 show grd (small (l7 ts).length) (some (SR.nx (ρ.set i (some (.ow l (.dct (putD (l7 ts) (.inl k) (.int v))))))))=_
 rw [a6W]
 exact A4 (by unfold small; rw [b2o]; omega)
theorem a1h {T:Tab}(hT:okT T=true)(hd:(T.map (·.1)).Nodup):∀ (U:Tab) (ts rs:C2) (g:Bool) (o4 o5:Option C),(∀ kv∈U,kv∈T)→ts.length + U.length≤90000→rs.length + U.length≤90000→
  ∃ p4 p5,forL (N5 4) a25 ((U.map (·.1)).map D.int) (srE T ts rs g o4 o5)=some (match F5 ts rs g U with
   | (some k,ts',rs',g')=>SR.rt (.val (.int k)) (srE T ts' rs' g' p4 p5)
   | (none,ts',rs',g')=>SR.nx (srE T ts' rs' g' p4 p5))
 | [],ts,rs,g,o4,o5,_,_,_=>⟨o4,o5,rfl⟩
 | kv::U,ts,rs,g,o4,o5,hU,h1,h2=>by
  rw [List.length_cons] at h1 h2
  have hm:=hU kv List.mem_cons_self
  have hl:=a6u hd hm
  have hc:=(a5V hT).2 _ hm
  have i1:=a6z hl
  have fo:=a5C (ts:=ts) hc
  have fl:=a5F (y9 ts kv.2)
  have en:=a6q (y9 ts kv.2)
  have ln:=a7b (y9 ts kv.2)
  have s1:u6 5 (w5 [false,false] P5 (c9 (d8 1) (c9 (g9 B0 (d8 0) (d8 4)) j5))) (srE T ts rs g (some (.sh (.int kv.1))) o5)=some (.nx (srE T ts rs g (some (.sh (.int kv.1))) (some (.ow false (.lst ((y9 ts kv.2).map D.int)))))):=
   r8 (L8 (d9 (d7 rfl) (d9 (i7 (d7 rfl) (d7 rfl) rfl rfl i1) j4)) rfl rfl fo rfl fl) rfl
  have es:F5 ts rs g (kv::U)=match scan1 ts rs g kv.1 (y9 ts kv.2) with | none=>(some kv.1,ts,rs,g) | some (ts',rs',g')=>F5 ts' rs' g' U:=rfl
  rw [es]
  generalize y9 ts kv.2=X at *
  have c2:x9 (g9 Z7 (d8 5) (a0N j5)) (srE T ts rs g (some (.sh (.int kv.1))) (some (.ow false (.lst (X.map D.int)))))=some (.ok X.isEmpty (srE T ts rs g (some (.sh (.int kv.1))) (some (.ow false (.lst (X.map D.int)))))):=A0 (i7 (d7 rfl) (U3 j4 rfl (Nat.le_of_ble_eq_true rfl)) rfl rfl en)
  have c3:x9 (g9 Z7 (E3 a1T (c9 (d8 5) j5)) (mC (.int 1))) (srE T ts rs g (some (.sh (.int kv.1))) (some (.ow false (.lst (X.map D.int)))))=some (.ok (decide ((X.length:Int)=1)) (srE T ts rs g (some (.sh (.int kv.1))) (some (.ow false (.lst (X.map D.int)))))):=A0 (i7 (C4 (d9 (d7 rfl) j4) rfl ln) l8 rfl rfl (eq_int _ _))
  match X,s1,c2,c3 with
  | [],s1,c2,c3=>exact ⟨some (.sh (.int kv.1)),some (.ow false (.lst [])),b5A rfl (i8 s1 (X6 (M9 c2 rfl (E7 (d7 rfl) rfl))))⟩
  | [l],s1,c2,c3=>
   have ab:L1 [.int l]=some (.val (.int (t8 l))):=rfl
   have m0:∀ {ρ:k9},ρ[5]?=some (some (.ow false (.lst [.int l])))→g9 B0 (d8 5) (mC (.int 0)) ρ=some (.ok (.val (.int l)) ρ):=fun {ρ} h=>i7 (d7 h) l8 (show getD (.slot 5) ρ=some (.lst [.int l]) by unfold getD; simp only [h]) rfl rfl
   have m1:∀ {ρ:k9},ρ[5]?=some (some (.ow false (.lst [.int l])))→E3 L1 (c9 (g9 B0 (d8 5) (mC (.int 0))) j5) ρ=some (.ok (.val (.int (t8 l))) ρ):=fun {ρ} h=>C4 (d9 (m0 h) j4) rfl ab
   have c4:x9 (g9 S2 (E3 L1 (c9 (g9 B0 (d8 5) (mC (.int 0))) j5)) (d8 1)) (srE T ts rs g (some (.sh (.int kv.1))) (some (.ow false (.lst [.int l]))))=some (.ok (!(l5 ts (t8 l)).isSome) (srE T ts rs g (some (.sh (.int kv.1))) (some (.ow false (.lst [.int l]))))):=A0 (i7 (m1 rfl) (d7 rfl) rfl rfl (a9g ts (t8 l)))
   have c5:=a8k (c2:=x9 (g9 S2 (E3 L1 (c9 (g9 B0 (d8 5) (mC (.int 0))) j5)) (d8 1))) c3 c4
   by_cases hs:(l5 ts (t8 l)).isSome=true
   ·refine A6 (a1h hT hd U ts rs g (some (.sh (.int kv.1))) (some (.ow false (.lst [.int l]))) (fun x hx=>hU x (List.mem_cons_of_mem _ hx)) (by omega) (by omega)) fun p4 p5 ih=>?_
    refine ⟨p4,p5,?_⟩
    rw [show scan1 ts rs g kv.1 [l]=some (ts,rs,g) from if_pos hs]
    exact U7 rfl (i8 s1 (i8 (A7 c2 rfl P4) (A7 c5 (by rw [hs]; simp) P4))) ih
   ·have hs':(l5 ts (t8 l)).isSome=false:=by simpa using hs
    have l1:=a06 ts (t8 l) l
    have l2:=a06 rs (t8 l) kv.1
    refine A6 (a1h hT hd U (E4 ts (t8 l) l) (E4 rs (t8 l) kv.1) true (some (.sh (.int kv.1))) (some (.ow false (.lst [.int l]))) (fun x hx=>hU x (List.mem_cons_of_mem _ hx)) (by omega) (by omega)) fun p4 p5 ih=>?_
    refine ⟨p4,p5,?_⟩
    rw [show scan1 ts rs g kv.1 [l]=some (E4 ts (t8 l) l,E4 rs (t8 l) kv.1,true) from if_neg hs]
    have s3:a3v 1 (g9 B0 (d8 5) (mC (.int 0))) (E3 L1 (c9 (g9 B0 (d8 5) (mC (.int 0))) j5)) (srE T ts rs g (some (.sh (.int kv.1))) (some (.ow false (.lst [.int l]))))=some (.nx (srE T (E4 ts (t8 l) l) rs g (some (.sh (.int kv.1))) (some (.ow false (.lst [.int l]))))):=a2N (m0 rfl) rfl (m1 rfl) rfl rfl (a8t rfl (by omega))
    have s4:a3v 2 (d8 4) (E3 L1 (c9 (g9 B0 (d8 5) (mC (.int 0))) j5)) (srE T (E4 ts (t8 l) l) rs g (some (.sh (.int kv.1))) (some (.ow false (.lst [.int l]))))=some (.nx (srE T (E4 ts (t8 l) l) (E4 rs (t8 l) kv.1) g (some (.sh (.int kv.1))) (some (.ow false (.lst [.int l]))))):=a2N (d7 rfl) rfl (m1 rfl) rfl rfl (a8t rfl (by omega))
    exact U7 rfl (i8 s1 (i8 (A7 c2 rfl P4) (M9 c5 (by rw [hs']; simp) (i8 s3 (i8 s4 (r8 l8 rfl)))))) ih
  | a::b::X,s1,c2,c3=>
   refine A6 (a1h hT hd U ts rs g (some (.sh (.int kv.1))) (some (.ow false (.lst ((a::b::X).map D.int)))) (fun x hx=>hU x (List.mem_cons_of_mem _ hx)) (by omega) (by omega)) fun p4 p5 ih=>?_
   exact ⟨p4,p5,U7 rfl (i8 s1 (i8 (A7 c2 rfl P4) (A7 (b4c c3 (by simp; omega)) rfl P4))) ih⟩
theorem scan_len:∀ (U:Tab) (ts rs:C2) (g:Bool),(F5 ts rs g U).2.1.length≤ts.length + U.length∧(F5 ts rs g U).2.2.1.length≤rs.length + U.length
 | [],ts,rs,g=>⟨Nat.le_refl _,Nat.le_refl _⟩
 | kv::U,ts,rs,g=>by
  have es:F5 ts rs g (kv::U)=match scan1 ts rs g kv.1 (y9 ts kv.2) with | none=>(some kv.1,ts,rs,g) | some (ts',rs',g')=>F5 ts' rs' g' U:=rfl
  rw [es,List.length_cons]
  generalize y9 ts kv.2=X
  match X with
  | []=>exact ⟨by show ts.length≤_; omega,by show rs.length≤_; omega⟩
  | [l]=>
   by_cases hs:(l5 ts (t8 l)).isSome=true
   ·rw [show scan1 ts rs g kv.1 [l]=some (ts,rs,g) from if_pos hs]
    have:=scan_len U ts rs g
    exact ⟨by show (F5 ts rs g U).2.1.length≤_; omega,by show (F5 ts rs g U).2.2.1.length≤_; omega⟩
   ·rw [show scan1 ts rs g kv.1 [l]=some (E4 ts (t8 l) l,E4 rs (t8 l) kv.1,true) from if_neg hs]
    have:=scan_len U (E4 ts (t8 l) l) (E4 rs (t8 l) kv.1) true
    have l1:=a06 ts (t8 l) l
    have l2:=a06 rs (t8 l) kv.1
    exact ⟨by show (F5 (E4 ts (t8 l) l) (E4 rs (t8 l) kv.1) true U).2.1.length≤_; omega,by show (F5 (E4 ts (t8 l) l) (E4 rs (t8 l) kv.1) true U).2.2.1.length≤_; omega⟩
  | a::b::X=>
   have:=scan_len U ts rs g
   exact ⟨by show (F5 ts rs g U).2.1.length≤_; omega,by show (F5 ts rs g U).2.2.1.length≤_; omega⟩
theorem a3r {T:Tab}(hT:okT T=true)(hd:(T.map (·.1)).Nodup):∀ (n:Nat) (ts rs:C2) (o4 o5:Option C) (r:Option Int×C2×C2),n≤100→ts.length + 600 * n≤70000→rs.length + 600 * n≤70000→M4 T n ts rs=some r→
  ∃ g p4 p5,B4 (a01 (d8 3)) a3q (n + 1) (srE T ts rs true o4 o5)=some (match r with
   | (some k,ts',rs')=>SR.rt (.val (.int k)) (srE T ts' rs' g p4 p5)
   | (none,ts',rs')=>SR.nx (srE T ts' rs' g p4 p5))
 | 0,ts,rs,o4,o5,r,_,_,_,h=>by cases h
 | n + 1,ts,rs,o4,o5,r,hn,h1,h2,h=>by
  have Tl:=(a5V hT).1
  refine A6 (a1h hT hd T ts rs false o4 o5 (fun _ h=>h) (by omega) (by omega)) fun p4 p5 hf=>?_
  have sl:=scan_len T ts rs false
  have cT:a01 (d8 3) (srE T ts rs true o4 o5)=some (.ok true (srE T ts rs true o4 o5)):=Y5 (d7 rfl) rfl rfl
  have s0:u6 3 (mC (.bl false)) (srE T ts rs true o4 o5)=some (.nx (srE T ts rs false o4 o5)):=r8 l8 rfl
  have hw:a5K 0 (srE T ts rs false o4 o5)=some (.ok ((T.map (·.1)).map D.int) (srE T ts rs false o4 o5)):=by
   rw [← keys_map]
   exact b32 rfl
  have hb:=i8 s0 (a2S hw hf)
  have eV:M4 T (n + 1) ts rs=match F5 ts rs false T with
   | (some k,ts',rs',_)=>some (some k,ts',rs')
   | (none,ts',rs',false)=>some (none,ts',rs')
   | (none,ts',rs',true)=>M4 T n ts' rs':=rfl
  rw [eV] at h
  match hX:F5 ts rs false T,h,hb with
  | (some k,ts',rs',g'),h,hb=>
   cases h
   exact ⟨g',p4,p5,a3K cT hb⟩
  | (none,ts',rs',false),h,hb=>
   cases h
   exact ⟨false,p4,p5,a1Z cT hb (b4F (Y5 (d7 rfl) rfl rfl))⟩
  | (none,ts',rs',true),h,hb=>
   rw [hX] at sl
   have sl1:ts'.length≤_:=sl.1
   have sl2:rs'.length≤_:=sl.2
   refine a3h (a3r hT hd n ts' rs' p4 p5 r (by omega) (by omega) (by omega) h) fun g q4 q5 ih=>?_
   exact ⟨g,q4,q5,a1Z cT hb ih⟩
theorem b0s {T:Tab}{ts rs:C2}{r:Option Int×C2×C2}(h1:okT T=true)(h2:(T.map (·.1)).Nodup)(h3:ts.length≤1000)(h4:rs.length≤1000)(h:M4 T 99 ts rs=some r):T7 [.dct (v5 T),.dct (l7 ts),.dct (l7 rs)]=some (.ret (.val (b0A r.1)) [.dct (l7 r.2.1),.dct (l7 r.2.2)]):=by
 show a3j a0C 6 [false,true,true] 0 _=_
 have g1:=h1
 have g2:=h2
 refine a3h (a3r g1 g2 99 ts rs none none r (by omega) (by omega) (by omega) h) fun g p4 p5 hL=>?_
 have s1:u6 3 (mC (.bl true)) (b2q 0 (A1 6 [false,true,true] [.dct (v5 T),.dct (l7 ts),.dct (l7 rs)]))=some (.nx (srE T ts rs true none none)):=r8 l8 rfl
 match r,hL with
 | (some k,ts',rs'),hL=>exact a9Q (i8 s1 (X6 hL)) rfl
 | (none,ts',rs'),hL=>exact a9Q (i8 s1 (i8 hL (E7 l8 rfl))) rfl
theorem a2F:∀ (ks nd:List Int),a1o (keyed nd) (keyed ks)=keyed (ks.foldl P7 nd)
 | [],nd=>rfl
 | k::ks,nd=>by
  show a1o (putD (keyed nd) (.inl k) (.bl true)) (keyed ks)=_
  rw [a5j,a2F ks]
  rfl
theorem a2t:∀ ks:List Int,S0 (ks.map fun k=>D.tup [.int k,.bl true])=some (keyed ks)
 | []=>rfl
 | k::ks=>by
  show (pairD (.tup [.int k,.bl true])).bind _=_
  show (S0 _).map _=_
  rw [a2t ks]
  rfl
theorem a5L (ks:List Int):(keyed ks).length=ks.length:=List.length_map _
theorem a4i:∀ (ks nd:List Int),(ks.foldl P7 nd).length≤nd.length + ks.length
 | [],nd=>Nat.le_refl _
 | k::ks,nd=>by
  have h1:=a4i ks (P7 nd k)
  have h2:=a4m nd k
  rw [List.foldl_cons,List.length_cons]
  omega
theorem a7L (c:List Int):(S3 c).length≤c.length:=by
 have:=a4i (c.map t8) []
 rw [List.length_map,List.length_nil,Nat.zero_add] at this
 exact this
theorem a7y {mi:M (List D)}{ρ:k9}{c:List Int}(hi:mi ρ=some (.ok (c.map D.int) ρ))(hc:c.length≤1000):E3 a0y (c9 (D9 mi (N5 0) N4 (Q8 (c9 (E3 L1 (c9 (d8 0) j5)) (c9 (mC (.bl true)) j5))) 1 []) j5) ρ=some (.ok (.own (.dct (keyed (S3 c)))) ρ):=by
 have hc1:K6 (N5 0) N4 (Q8 (c9 (E3 L1 (c9 (d8 0) j5)) (c9 (mC (.bl true)) j5))) (U1 1 [] ρ) (c.map D.int)=some (c.map fun l=>D.tup [.int (t8 l),.bl true]):=by
  apply O0
  intro l _
  exact ⟨[some (.sh (.int l))],.val (.tup [.int (t8 l),.bl true]),[some (.sh (.int l))],[some (.sh (.int l))],rfl,O7 (d9 (C4 (d9 (d7 rfl) j4) rfl rfl) (d9 l8 j4)) rfl (Nat.le_of_ble_eq_true rfl),rfl⟩
 have hfl:(c.map fun l=>D.tup [.int (t8 l),.bl true]).all Q6=true:=by
  rw [List.all_map,List.all_eq_true]
  intro x _
  rfl
 have m:=O6 (own:=1) (fr:=[]) hi (A9 (by rw [List.length_map]; omega)) hc1 (.inl hfl)
 have hd:a0y [.lst (c.map fun l=>D.tup [.int (t8 l),.bl true])]=some (.own (.dct (keyed (S3 c)))):=by
  show (S0 _).map _=_
  rw [show (c.map fun l=>D.tup [.int (t8 l),.bl true])=(c.map t8).map (fun k=>D.tup [.int k,.bl true]) by rw [List.map_map]; rfl,a2t]
  show some (W.own (.dct (a1o (keyed []) (keyed (c.map t8)))))=_
  rw [a2F]
  rfl
 exact C4 (d9 m j4) rfl hd
theorem in_keyed (nd:List Int)(k:Int):inD (.int k) (.dct (keyed nd))=some (.val (.bl (decide (k∈nd)))):=by
 show vB (J3 (keyed nd) (.inl k)).isSome=_
 rw [a5u]
 rfl
theorem b1v (acc:List Int)(l:Int):(acc++[l]).map D.int=acc.map D.int++[D.int l]:=by simp
noncomputable def leE (T:Tab)(ch:List Int)(ts rs:C2)(k:Int)(nd hs:List Int)(o7:Option C):k9:=[some (.sh (.dct (v5 T))),some (.sh (.lst (ch.map D.int))),some (.sh (.dct (l7 ts))),some (.sh (.dct (l7 rs))),some (.sh (.int k)),some (.ow false (.dct (keyed nd))),some (.ow false (.lst (hs.map D.int))),o7,none]
theorem a21 {T:Tab}{ch:List Int}{ts rs:C2}{k:Int}(hT:∀ kv∈T,kv.2.length≤100):∀ (xs hs nd:List Int) (o7:Option C) (r:List Int×List Int),hs.length + xs.length≤1000→nd.length + 100 * xs.length≤90000→O1 T rs xs hs nd=some r→
  ∃ p7,forL (N5 7) a19 (xs.map D.int) (leE T ch ts rs k nd hs o7)=some (.nx (leE T ch ts rs k r.2 r.1 p7))
 | [],hs,nd,o7,r,_,_,h=>by cases h; exact ⟨o7,rfl⟩
 | x::xs,hs,nd,o7,r,h1,h2,h=>by
  rw [List.length_cons] at h1 h2
  have c1:x9 (g9 inD (d8 7) (d8 5)) (leE T ch ts rs k nd hs (some (.sh (.int x))))=some (.ok (decide (x∈nd)) (leE T ch ts rs k nd hs (some (.sh (.int x))))):=A0 (i7 (d7 rfl) (d7 rfl) rfl rfl (in_keyed nd x))
  have c2:x9 (g9 inD (d8 7) (d8 3)) (leE T ch ts rs k nd hs (some (.sh (.int x))))=some (.ok (l5 rs x).isSome (leE T ch ts rs k nd hs (some (.sh (.int x))))):=A0 (i7 (d7 rfl) (d7 rfl) rfl rfl (b1Y rs x))
  have c3:=a8k c1 c2
  have eB:O1 T rs (x::xs) hs nd=if x∈nd∧(l5 rs x).isSome=true then (I9 T ((l5 rs x).getD 0)).bind fun c=>O1 T rs xs (hs++[(l5 rs x).getD 0]) ((S3 c).foldl P7 nd) else O1 T rs xs hs nd:=rfl
  rw [eB] at h
  by_cases hx:x∈nd∧(l5 rs x).isSome=true
  ·rw [if_pos hx] at h
   refine g8 (Option.isSome_iff_exists.mp hx.2) fun q hq=>?_
   rw [hq] at h
   have h:(I9 T q).bind (fun c=>O1 T rs xs (hs++[q]) ((S3 c).foldl P7 nd))=some r:=h
   refine c6 (Option.bind_eq_some_iff.mp h) fun c hc h=>?_
   have cl:=hT _ (Z5 hc)
   have cl:c.length≤100:=cl
   have al:=a7L c
   have fl:=a4i (S3 c) nd
   refine g8 (a21 hT (ch:=ch) (ts:=ts) (k:=k) xs (hs++[q]) ((S3 c).foldl P7 nd) (some (.sh (.int x))) r (by rw [List.length_append,List.length_singleton]; omega) (by omega) h) fun p7 ih=>?_
   refine ⟨p7,U7 rfl (M9 c3 (by rw [decide_eq_true hx.1,hx.2]; rfl) (i8 (ρ1:=leE T ch ts rs k nd (hs++[q]) (some (.sh (.int x)))) ?_ ?_)) ih⟩
   ·refine a3R rfl (d9 (i7 (d7 rfl) (d7 rfl) rfl rfl (a8z hq)) j4) rfl rfl (A9 (by rw [List.length_map]; omega)) ?_
    unfold leE
    rw [b1v]
    rfl
   ·refine a9Y rfl (d9 (a7y (c:=c) (M0 (i7 (d7 rfl) (i7 (d7 rfl) (d7 rfl) rfl rfl (a8z hq)) rfl rfl (a6z hc)) rfl rfl) (by omega)) j4) rfl rfl (A9 (by rw [a5L,a5L]; omega)) ?_
    rw [a2F]
    rfl
  ·rw [if_neg hx] at h
   refine g8 (a21 hT (ch:=ch) (ts:=ts) (k:=k) xs hs nd (some (.sh (.int x))) r (by omega) (by omega) h) fun p7 ih=>?_
   refine ⟨p7,U7 rfl (A7 c3 ?_ P4) ih⟩
   by_cases hn:x∈nd
   ·have:(l5 rs x).isSome=false:=by
     cases hh:(l5 rs x).isSome with
     | false=>rfl
     | true=>exact absurd ⟨hn,hh⟩ hx
    rw [this,Bool.and_false]
   ·rw [decide_eq_false hn,Bool.false_and]
theorem a2l {T:Tab}{rs:C2}:∀ (xs hs nd:List Int) (r:List Int×List Int),O1 T rs xs hs nd=some r→r.1.length≤hs.length + xs.length
 | [],hs,nd,r,h=>by cases h; exact Nat.le_refl _
 | x::xs,hs,nd,r,h=>by
  have eB:O1 T rs (x::xs) hs nd=if x∈nd∧(l5 rs x).isSome=true then (I9 T ((l5 rs x).getD 0)).bind fun c=>O1 T rs xs (hs++[(l5 rs x).getD 0]) ((S3 c).foldl P7 nd) else O1 T rs xs hs nd:=rfl
  rw [eB] at h
  rw [List.length_cons]
  split at h
  ·refine c6 (Option.bind_eq_some_iff.mp h) fun c hc h=>?_
   have:=a2l xs _ _ r h
   rw [List.length_append,List.length_singleton] at this
   omega
  ·have:=a2l xs _ _ r h
   omega
theorem b0Q (ts:C2):a1u [.dct (l7 ts)]=some (.own (.lst ((ts.map (·.1)).map D.int))):=by
 show some (W.own (.lst ((l7 ts).map fun e=>a24 e.1)))=_
 unfold l7
 rw [List.map_map,List.map_map]
 rfl
theorem a8R {T:Tab}{ch:List Int}{ts rs:C2}{k:Int}{r:List Int×List Int}(h1:okT T=true)(h2:ch.length≤1000)(h3:ts.length≤20)(h4:rs.length≤1000)(h5:(T.all fun kv=>decide (kv.2.length≤100))=true)(h:Y6 T ch ts rs k=some r):
  U8 [.dct (v5 T),.lst (ch.map D.int),.dct (l7 ts),.dct (l7 rs),.int k]=some (.ret (.val (L4 (((T.length + 1:Nat):Int),r.1,r.2))) []):=by
 show z9 W8 9 [false,false,false,false,false] _=_
 have g5:=h5
 have hb:=h
 have hT:∀ kv∈T,kv.2.length≤100:=fun kv hm=>of_decide_eq_true (List.all_eq_true.mp g5 kv hm)
 refine c6 (Option.bind_eq_some_iff.mp hb) fun c hc hb=>?_
 refine c6 (Option.map_eq_some_iff.mp hb) fun q hq Z1=>?_; subst Z1
 have cl:c.length≤100:=hT _ (Z5 hc)
 have al:=a7L c
 refine g8 (a21 (ch:=ch) (ts:=ts) (k:=k) hT (ts.map (·.1)).reverse [k] (S3 c) none q (by rw [List.length_reverse,List.length_map,List.length_singleton]; omega) (by rw [List.length_reverse,List.length_map]; omega) hq) fun p7 hL=>?_
 have bl:=a2l _ _ _ _ hq
 rw [List.length_reverse,List.length_map,List.length_singleton] at bl
 have s1:u6 5 (E3 a0y (c9 (D9 (C9 (g9 B0 (d8 0) (d8 4))) (N5 0) N4 (Q8 (c9 (E3 L1 (c9 (d8 0) j5)) (c9 (mC (.bl true)) j5))) 1 []) j5)) (A1 9 [false,false,false,false,false] [.dct (v5 T),.lst (ch.map D.int),.dct (l7 ts),.dct (l7 rs),.int k])=some (.nx [some (.sh (.dct (v5 T))),some (.sh (.lst (ch.map D.int))),some (.sh (.dct (l7 ts))),some (.sh (.dct (l7 rs))),some (.sh (.int k)),some (.ow false (.dct (keyed (S3 c)))),none,none,none]):=r8 (a7y (c:=c) (M0 (i7 (d7 rfl) (d7 rfl) rfl rfl (a6z hc)) rfl rfl) (by omega)) rfl
 have s2:u6 6 (a0N (c9 (d8 4) j5)) [some (.sh (.dct (v5 T))),some (.sh (.lst (ch.map D.int))),some (.sh (.dct (l7 ts))),some (.sh (.dct (l7 rs))),some (.sh (.int k)),some (.ow false (.dct (keyed (S3 c)))),none,none,none]=some (.nx (leE T ch ts rs k (S3 c) [k] none)):=r8 (U3 (d9 (d7 rfl) j4) rfl (Nat.le_of_ble_eq_true rfl)) rfl
 have hr:b1p (c9 (E3 a1u (c9 (d8 2) j5)) j5) (leE T ch ts rs k (S3 c) [k] none)=some (.ok ((ts.map (·.1)).reverse.map D.int) (leE T ch ts rs k (S3 c) [k] none)):=by
  rw [List.map_reverse]
  exact b6w (ρ1:=leE T ch ts rs k (S3 c) [k] none) (d9 (C4 (d9 (d7 rfl) j4) rfl (b0Q ts)) j4) rfl
 have hc3:K6 (N5 0) (x9 (g9 inD (E3 L1 (c9 (d8 0) j5)) (d8 1))) (mUn a0U (d8 0)) [none,some (.sh (.dct (keyed q.2)))] (ch.map D.int)=some ((ch.filter fun l=>decide (t8 l∈q.2)).map fun l=>D.int (-l)):=by
  apply a2W
  intro l _
  exact turn_if (ρ1:=[some (.sh (.int l)),some (.sh (.dct (keyed q.2)))]) (ρ2:=[some (.sh (.int l)),some (.sh (.dct (keyed q.2)))]) rfl (A0 (i7 (C4 (d9 (d7 rfl) j4) rfl rfl) (d7 rfl) rfl rfl (in_keyed q.2 (t8 l)))) (fun _=>⟨_,_,_,a0Y (d7 rfl) rfl rfl,rfl⟩)
 rw [show ((ch.filter fun l=>decide (t8 l∈q.2)).map fun l=>D.int (-l))=((ch.filter fun l=>decide (t8 l∈q.2)).map fun l=>-l).map D.int by rw [List.map_map]; rfl] at hc3
 have m4:=O6 (mi:=C9 (d8 1)) (own:=1) (fr:=[5]) (ρ:=leE T ch ts rs k q.2 q.1 p7) (ρ1:=leE T ch ts rs k q.2 q.1 p7) (M0 (d7 rfl) rfl rfl) (A9 (by rw [List.length_map]; omega)) hc3 (.inl (F4 _))
 generalize hcl:(ch.filter fun l=>decide (t8 l∈q.2)).map (fun l=>-l)=cl' at *
 have ln:a1T [.dct (v5 T)]=some (.val (.int (T.length:Nat))):=by
  show some (W.val (.int ((v5 T).length:Nat)))=_
  rw [show (v5 T).length=T.length from List.length_map _]
 have ad:O8 (.int (T.length:Nat)) (.int 1)=some (.val (.int ((T.length + 1:Nat):Int))):=by
  show some (W.val (.int _))=_
  rw [show ((T.length:Nat):Int) + 1=((T.length + 1:Nat):Int) by omega]
 have tr:a3Y [.lst (q.1.map D.int)]=some (.val (.tup (q.1.reverse.map D.int))):=by
  show some (W.val (.tup (q.1.map D.int).reverse))=_
  rw [← List.map_reverse]
 exact K8 (i8 s1 (i8 s2 (i8 (a2S hr hL) (i8 (r8 m4 rfl) (E7 (O7 (d9 l8 (d9 (i7 (C4 (d9 (d7 rfl) j4) rfl ln) l8 rfl rfl ad) (d9 (C4 (d9 (d7 rfl) j4) rfl rfl) (d9 (C4 (d9 (d7 rfl) j4) rfl tr) j4)))) rfl (Nat.le_of_ble_eq_true rfl)) rfl))))) rfl
theorem a9D (ls:List Int):Z7 (.tup (ls.map D.int)) (.tup [])=some (.val (.bl ls.isEmpty)):=by cases ls <;> rfl
theorem a5t (d:Int):∀ ds:List Int,a1C (.int d) (ds.map D.int)=some (ds.map fun x=>decide (x=d))
 | []=>rfl
 | x::xs=>by
  show (match eqD 7 (.int x) (.int d),a1C (.int d) (xs.map D.int) with | some a,some b=>some (a::b) | _,_=>none)=_
  rw [a5t d xs,a7J]
  rfl
theorem a4u {d:Int}:∀ {ds:List Int},d∈ds→∃ j:Nat,P9 (ds.map fun x=>decide (x=d))=some j∧ds.take j=ds.takeWhile (fun x=>!decide (x=d))
 | x::xs,h=>by
  by_cases e:x=d
  ·refine ⟨0,?_,?_⟩
   ·rw [List.map_cons,decide_eq_true e]; rfl
   ·rw [List.takeWhile_cons_of_neg (by simp [e])]; rfl
  ·have h':d∈xs:=by
    refine Or.elim (List.mem_cons.mp h) (fun z=>?_) fun z=>?_
    ·exact absurd z.symm e
    ·exact z
   refine c6 (a4u h') fun j h1 h2=>?_
   refine ⟨j + 1,?_,?_⟩
   ·rw [List.map_cons,decide_eq_false e]
    show (P9 _).map _=_
    rw [h1]
    rfl
   ·rw [List.takeWhile_cons_of_pos (by simp [e]),List.take_succ_cons,h2]
theorem b2j {ds:List Int}{d:Int}{j:Nat}(h:P9 (ds.map fun x=>decide (x=d))=some j):a4z (.lst (ds.map D.int)) [.int d]=some (.val (.int (j:Int))):=by
 show (a1C (.int d) (ds.map D.int)).bind _=_
 rw [a5t]
 show (P9 _).bind _=_
 rw [h]
 rfl
theorem b5y (hs:List Int)(k:Nat):slD (.lst (hs.map D.int)) none (some (k:Int))=some (.own (.lst ((hs.take k).map D.int))):=by
 show some (W.own (.lst (cutD _ none (some (k:Int)))))=_
 unfold cutD
 rw [L3.b6A,List.map_take]
theorem b2r {c:List Int}{l:Int}(h:c.getLast?=some l):B0 (.tup (c.map D.int)) (.int (-1))=some (.val (.int l)):=by
 refine g8 (List.getLast?_eq_some_iff.mp h) fun d Z1=>?_; subst Z1
 rw [b1v]
 show (L2.atI (d.map D.int++[D.int l]) (-1)).map W.val=_
 rw [b3f]
 rfl
theorem b1H {cs:List (List Int)}{st:List Stp}{ch:List Int}(h:okS cs st ch=true):cs.length≤500∧st.length≤500∧ch.length≤20∧∀ c∈cs,c.length≤100:=by
 unfold okS at h
 simp only [Bool.and_eq_true,decide_eq_true_eq,List.all_eq_true] at h
 exact ⟨h.1.1,h.1.2.1,h.1.2.2,h.2⟩
theorem a9a {cs:List (List Int)}(h1:cs.length≤600)(h2:∀ c∈cs,c.length≤100):okT (v7 1 cs)=true:=by
 unfold okT
 rw [Bool.and_eq_true,a00,List.all_eq_true]
 refine ⟨decide_eq_true h1,fun kv hm=>decide_eq_true ?_⟩
 have:=h2 _ (Q9 cs 1 kv hm).2.2
 omega
theorem b4V {cs:List (List Int)}(h2:∀ c∈cs,c.length≤100):((v7 1 cs).all fun kv=>decide (kv.2.length≤100))=true:=List.all_eq_true.mpr fun kv hm=>decide_eq_true (h2 _ (Q9 cs 1 kv hm).2.2)
theorem b2L (s:Stp):Q6 (L4 s)=true:=by
 have a:=T6 s.2.1
 have b:=T6 s.2.2
 have a':(s.2.1.map D.int).all (a2r 4)=true:=by rw [List.all_map,List.all_eq_true]; intro x _; rfl
 have b':(s.2.2.map D.int).all (a2r 4)=true:=by rw [List.all_map,List.all_eq_true]; intro x _; rfl
 show (true && (true && ((s.2.1.map D.int).all (a2r 4) && ((s.2.2.map D.int).all (a2r 4) && true))))=true
 rw [a',b']
 rfl
theorem a1J:∀ (ls:List Int) (ts:C2),(ls.foldl (fun ts l=>E4 ts (t8 l) l) ts).length≤ts.length + ls.length
 | [],ts=>Nat.le_refl _
 | l::ls,ts=>by
  have h1:=a1J ls (E4 ts (t8 l) l)
  have h2:=a06 ts (t8 l) l
  rw [List.foldl_cons,List.length_cons]
  omega
noncomputable def soE (v:Int)(cs0 cs:List (List Int))(st:List Stp)(ch:List Int)(o5 o6 o7 o8 o9 o10:Option C):k9:=[some (.sh (.int v)),some (.sh (.lst (J2 cs0))),some (.ow false (.dct (v5 (v7 1 cs)))),some (.ow false (.lst (st.map L4))),some (.ow false (.lst (ch.map D.int))),o5,o6,o7,o8,o9,o10]
theorem a5T {v:Int}(h0:0≤v)(h1:v≤1000){ρ:k9}(h:ρ[0]?=some (some (.sh (.int v)))):a0O ints2 (c9 (mC (.int 1)) (c9 (g9 O8 (d8 0) (mC (.int 1))) j5)) ρ=some (.ok (((List.range v.toNat).map fun k=>(1:Int) + ((k:Nat):Int)).map D.int) ρ):=by
 have g0:getD (.slot 0) ρ=some (.int v):=by unfold getD; simp only [h]
 have hi:ints2 [.int 1,.int (v + 1)]=some (((List.range v.toNat).map fun k=>(1:Int) + ((k:Nat):Int)).map D.int):=by
  show grd _ (some ((List.range (v + 1 - 1).toNat).map fun k=>D.int (1 + ((k:Nat):Int))))=_
  rw [show v + 1 - 1=v by omega,List.map_map]
  exact A4 ⟨by omega,by omega,by omega,by omega⟩
 exact a8A (d9 l8 (d9 (i7 (d7 h) l8 g0 rfl rfl) j4)) rfl hi
theorem b0I (ts:C2)(xs:List Int):K6 (N5 0) (x9 (g9 S2 (d8 0) (d8 1))) (d8 0) [none,some (.sh (.dct (l7 ts)))] (xs.map D.int)=some ((xs.filter fun x=>!(l5 ts x).isSome).map D.int):=by
 apply a2W
 intro x _
 exact turn_if (ρ1:=[some (.sh (.int x)),some (.sh (.dct (l7 ts)))]) (ρ2:=[some (.sh (.int x)),some (.sh (.dct (l7 ts)))]) rfl (A0 (i7 (d7 rfl) (d7 rfl) rfl rfl (a9g ts x))) (fun _=>⟨_,_,_,d7 rfl,rfl⟩)
theorem b0u {ts:C2}{xs:List Int}(h:∀ x∈xs,(l5 ts x).isSome=true):K6 (N5 0) N4 (g9 B0 (d8 1) (d8 0)) [none,some (.sh (.dct (l7 ts)))] (xs.map D.int)=some ((xs.map fun x=>(l5 ts x).getD 0).map D.int):=by
 rw [List.map_map]
 apply O0
 intro x hx
 refine g8 (Option.isSome_iff_exists.mp (h x hx)) fun q hq=>?_
 refine ⟨[some (.sh (.int x)),some (.sh (.dct (l7 ts)))],.val (.int q),[some (.sh (.int x)),some (.sh (.dct (l7 ts)))],[some (.sh (.int x)),some (.sh (.dct (l7 ts)))],rfl,i7 (d7 rfl) (d7 rfl) rfl rfl (a8z hq),?_⟩
 show some (R'.ok (D.int q) _)=some (.ok (D.int ((l5 ts x).getD 0)) _)
 rw [hq]
 rfl
theorem a0T {v:Int}(h0:0≤v)(h1:v≤1000)(cs0:List (List Int)):∀ (n:Nat) (cs:List (List Int)) (st:List Stp) (ch:List Int) (o5 o6 o7 o8 o9 o10:Option C) (r:Option (List Int)×List Stp),v9 v n cs st ch=some r→
  ∃ a b ρ,B4 (a01 (mC (.bl true))) a23 (n + 1) (soE v cs0 cs st ch o5 o6 o7 o8 o9 o10)=some (.rt (.val (.tup [b6a r.1,.lst (r.2.map L4)])) (a::b::ρ))
 | 0,cs,st,ch,o5,o6,o7,o8,o9,o10,r,h=>by cases h
 | n + 1,cs,st,ch,o5,o6,o7,o8,o9,o10,r,h=>by
  have eV:v9 v (n + 1) cs st ch=if okS cs st ch=true then match M4 (v7 1 cs) 99 (B8 ch) [] with
   | none=>none
   | some (some k,ts,rs)=>if ts.length≤20∧rs.length≤1000 then match Y6 (v7 1 cs) ch ts rs k with
    | none=>none
    | some (c,hs)=>match c.getLast? with
     | none=>some (none,st++[(((cs.length + 1:Nat):Int),c,hs)])
     | some l=>if -l∈ch then v9 v n (cs++[c]) (st++[(((cs.length + 1:Nat):Int),c,hs)]) (ch.takeWhile fun x=>!decide (x=-l)) else none
    else none
   | some (none,ts,rs)=>match C8 v ts with
    | []=>some (some (a4O v ts),[])
    | x::_=>v9 v n cs st (ch++[-x])
   else none:=rfl
  rw [eV] at h
  by_cases hok:okS cs st ch=true
  ·rw [if_pos hok] at h
   refine a1w (b1H hok) fun k1 k2 k3 k4=>?_
   have hT:=a9a (by omega:cs.length≤600) k4
   have hnd:=a0x cs 1
   have tl:(B8 ch).length≤ch.length:=by
    have:=a1J ch []
    rw [List.length_nil,Nat.zero_add] at this
    exact this
   have cT:∀ {ρ:k9},a01 (mC (.bl true)) ρ=some (.ok true ρ):=fun {ρ}=>Y5 l8 rfl rfl
   have s5:u6 5 (w5 [false] E8 (c9 (d8 4) j5)) (soE v cs0 cs st ch o5 o6 o7 o8 o9 o10)=some (.nx (soE v cs0 cs st ch (some (.ow false (.dct (l7 (B8 ch))))) o6 o7 o8 o9 o10)):=r8 (L8 (d9 (d7 rfl) j4) rfl rfl (a5N (by omega)) rfl (by rw [Bool.and_eq_true]; exact ⟨T4 _,rfl⟩)) rfl
   have s6:u6 6 a5O (soE v cs0 cs st ch (some (.ow false (.dct (l7 (B8 ch))))) o6 o7 o8 o9 o10)=some (.nx (soE v cs0 cs st ch (some (.ow false (.dct (l7 (B8 ch))))) (some (.ow false (.dct (l7 [])))) o7 o8 o9 o10)):=r8 a6T rfl
   cases hs:M4 (v7 1 cs) 99 (B8 ch) [] with
   | none=>rw [hs] at h; cases h
   | some q=>
    rw [hs] at h
    have fs:=b0s hT hnd (by omega) (by rw [List.length_nil]; omega) hs
    obtain ⟨qk,ts,rs⟩:=q
    have fq:(a5y (.val (b0A qk)) && ([D.dct (l7 ts),D.dct (l7 rs)]).all a0d)=true:=by
     rw [Bool.and_eq_true]
     refine ⟨by cases qk <;> rfl,?_⟩
     show (a0d _ && (a0d _ && true))=true
     rw [T4,T4]
     rfl
    have s7:u6 7 (w5 [false,true,true] T7 (c9 (d8 2) (c9 (d8 5) (c9 (d8 6) j5)))) (soE v cs0 cs st ch (some (.ow false (.dct (l7 (B8 ch))))) (some (.ow false (.dct (l7 [])))) o7 o8 o9 o10)=some (.nx (soE v cs0 cs st ch (some (.ow false (.dct (l7 ts)))) (some (.ow false (.dct (l7 rs)))) (some (.sh (b0A qk))) o8 o9 o10)):=r8 (L8 (d9 (d7 rfl) (d9 (d7 rfl) (d9 (d7 rfl) j4))) rfl rfl fs rfl fq) rfl
    have m8:=O6 (mi:=a0O ints2 (c9 (mC (.int 1)) (c9 (g9 O8 (d8 0) (mC (.int 1))) j5))) (own:=1) (fr:=[5]) (a5T h0 h1 (ρ:=soE v cs0 cs st ch (some (.ow false (.dct (l7 ts)))) (some (.ow false (.dct (l7 rs)))) (some (.sh (b0A qk))) o8 o9 o10) rfl) (A9 (by rw [List.length_map,List.length_map,List.length_range]; omega)) (b0I ts _) (.inl (F4 _))
    have s8:u6 8 (D9 (a0O ints2 (c9 (mC (.int 1)) (c9 (g9 O8 (d8 0) (mC (.int 1))) j5))) (N5 0) (x9 (g9 S2 (d8 0) (d8 1))) (d8 0) 1 [5]) (soE v cs0 cs st ch (some (.ow false (.dct (l7 ts)))) (some (.ow false (.dct (l7 rs)))) (some (.sh (b0A qk))) o8 o9 o10)=some (.nx (soE v cs0 cs st ch (some (.ow false (.dct (l7 ts)))) (some (.ow false (.dct (l7 rs)))) (some (.sh (b0A qk))) (some (.ow false (.lst ((C8 v ts).map D.int)))) o9 o10)):=r8 m8 rfl
    cases qk with
    | some k=>
     have h:(if ts.length≤20∧rs.length≤1000 then match Y6 (v7 1 cs) ch ts rs k with
      | none=>none
      | some (c,hs)=>match c.getLast? with
       | none=>some (none,st++[(((cs.length + 1:Nat):Int),c,hs)])
       | some l=>if -l∈ch then v9 v n (cs++[c]) (st++[(((cs.length + 1:Nat):Int),c,hs)]) (ch.takeWhile fun x=>!decide (x=-l)) else none
      else none)=some r:=h
     by_cases hl:ts.length≤20∧rs.length≤1000
     ·rw [if_pos hl] at h
      cases hL:Y6 (v7 1 cs) ch ts rs k with
      | none=>rw [hL] at h; cases h
      | some cq=>
       rw [hL] at h
       obtain ⟨c,hs'⟩:=cq
       have fL:=a8R hT (by omega) hl.1 hl.2 (b4V k4) hL
       rw [a00] at fL
       have c7:x9 (mUn (fun d=>vB (!X7 d)) (d8 7)) (soE v cs0 cs st ch (some (.ow false (.dct (l7 ts)))) (some (.ow false (.dct (l7 rs)))) (some (.sh (.int k))) (some (.ow false (.lst ((C8 v ts).map D.int)))) o9 o10)=some (.ok true (soE v cs0 cs st ch (some (.ow false (.dct (l7 ts)))) (some (.ow false (.dct (l7 rs)))) (some (.sh (.int k))) (some (.ow false (.lst ((C8 v ts).map D.int)))) o9 o10)):=A0 (a0Y (d7 rfl) rfl rfl)
       have h:(match c.getLast? with
        | none=>some (none,st++[(((cs.length + 1:Nat):Int),c,hs')])
        | some l=>if -l∈ch then v9 v n (cs++[c]) (st++[(((cs.length + 1:Nat):Int),c,hs')]) (ch.takeWhile fun x=>!decide (x=-l)) else none)=some r:=h
       generalize hsp:((((cs.length + 1:Nat):Int),c,hs'):Stp)=sp at *
       have fp:=b2L sp
       have s9:u6 9 (w5 [false,false,false,false,false] U8 (c9 (d8 2) (c9 (d8 4) (c9 (d8 5) (c9 (d8 6) (c9 (d8 7) j5)))))) (soE v cs0 cs st ch (some (.ow false (.dct (l7 ts)))) (some (.ow false (.dct (l7 rs)))) (some (.sh (.int k))) (some (.ow false (.lst ((C8 v ts).map D.int)))) o9 o10)=some (.nx (soE v cs0 cs st ch (some (.ow false (.dct (l7 ts)))) (some (.ow false (.dct (l7 rs)))) (some (.sh (.int k))) (some (.ow false (.lst ((C8 v ts).map D.int)))) (some (.sh (L4 sp))) o10)):=r8 (L8 (d9 (d7 rfl) (d9 (d7 rfl) (d9 (d7 rfl) (d9 (d7 rfl) (d9 (d7 rfl) j4))))) rfl rfl fL rfl (by rw [Bool.and_eq_true]; exact ⟨fp,rfl⟩)) rfl
       have i2:B0 (L4 sp) (.int 2)=some (.val (.tup (c.map D.int))):=by rw [← hsp]; rfl
       have i1:B0 (L4 sp) (.int 1)=some (.val (.int ((cs.length + 1:Nat):Int))):=by rw [← hsp]; rfl
       have s10:u6 10 (g9 B0 (d8 9) (mC (.int 2))) (soE v cs0 cs st ch (some (.ow false (.dct (l7 ts)))) (some (.ow false (.dct (l7 rs)))) (some (.sh (.int k))) (some (.ow false (.lst ((C8 v ts).map D.int)))) (some (.sh (L4 sp))) o10)=some (.nx (soE v cs0 cs st ch (some (.ow false (.dct (l7 ts)))) (some (.ow false (.dct (l7 rs)))) (some (.sh (.int k))) (some (.ow false (.lst ((C8 v ts).map D.int)))) (some (.sh (L4 sp))) (some (.sh (.tup (c.map D.int)))))):=r8 (i7 (d7 rfl) l8 rfl rfl i2) rfl
       have s11:V0 (O5 3 (c9 (d8 9) j5)) (soE v cs0 cs st ch (some (.ow false (.dct (l7 ts)))) (some (.ow false (.dct (l7 rs)))) (some (.sh (.int k))) (some (.ow false (.lst ((C8 v ts).map D.int)))) (some (.sh (L4 sp))) (some (.sh (.tup (c.map D.int)))))=some (.nx (soE v cs0 cs (st++[sp]) ch (some (.ow false (.dct (l7 ts)))) (some (.ow false (.dct (l7 rs)))) (some (.sh (.int k))) (some (.ow false (.lst ((C8 v ts).map D.int)))) (some (.sh (L4 sp))) (some (.sh (.tup (c.map D.int)))))):=by
        refine a3R rfl (d9 (d7 rfl) j4) rfl rfl (A9 (by rw [List.length_map]; omega)) ?_
        unfold soE
        rw [List.map_append]
        rfl
       have c12:x9 (g9 Z7 (d8 10) (Q8 j5)) (soE v cs0 cs (st++[sp]) ch (some (.ow false (.dct (l7 ts)))) (some (.ow false (.dct (l7 rs)))) (some (.sh (.int k))) (some (.ow false (.lst ((C8 v ts).map D.int)))) (some (.sh (L4 sp))) (some (.sh (.tup (c.map D.int)))))=some (.ok c.isEmpty (soE v cs0 cs (st++[sp]) ch (some (.ow false (.dct (l7 ts)))) (some (.ow false (.dct (l7 rs)))) (some (.sh (.int k))) (some (.ow false (.lst ((C8 v ts).map D.int)))) (some (.sh (L4 sp))) (some (.sh (.tup (c.map D.int)))))):=A0 (i7 (d7 rfl) (O7 j4 rfl (Nat.le_of_ble_eq_true rfl)) rfl rfl (a9D c))
       cases hg:c.getLast? with
       | none=>
        rw [hg] at h
        cases h
        have hc:c=[]:=List.getLast?_eq_none_iff.mp hg
        exact ⟨_,_,_,a3K cT (i8 s5 (i8 s6 (i8 s7 (i8 s8 (M9 c7 rfl (i8 s9 (i8 s10 (i8 s11 (X6 (M9 c12 (by rw [hc]; rfl) (E7 (O7 (d9 l8 (d9 (d7 rfl) j4)) rfl (Nat.le_of_ble_eq_true rfl)) rfl)))))))))))⟩
       | some l=>
        rw [hg] at h
        have h:(if -l∈ch then v9 v n (cs++[c]) (st++[sp]) (ch.takeWhile fun x=>!decide (x=-l)) else none)=some r:=h
        by_cases hin:-l∈ch
        ·rw [if_pos hin] at h
         refine c6 (a4u hin) fun j j1 j2=>?_
         have cne:c.isEmpty=false:=by
          cases c with
          | nil=>cases hg
          | cons _ _=>rfl
         have s13:a3v 2 (d8 10) (g9 B0 (d8 9) (mC (.int 1))) (soE v cs0 cs (st++[sp]) ch (some (.ow false (.dct (l7 ts)))) (some (.ow false (.dct (l7 rs)))) (some (.sh (.int k))) (some (.ow false (.lst ((C8 v ts).map D.int)))) (some (.sh (L4 sp))) (some (.sh (.tup (c.map D.int)))))=some (.nx (soE v cs0 (cs++[c]) (st++[sp]) ch (some (.ow false (.dct (l7 ts)))) (some (.ow false (.dct (l7 rs)))) (some (.sh (.int k))) (some (.ow false (.lst ((C8 v ts).map D.int)))) (some (.sh (L4 sp))) (some (.sh (.tup (c.map D.int)))))):=by
          refine a2N (d7 rfl) rfl (i7 (d7 rfl) l8 rfl rfl i1) rfl rfl ?_
          have ep:putD (v5 (v7 1 cs)) (.inl ((cs.length + 1:Nat):Int)) (.tup (c.map D.int))=v5 (v7 1 (cs++[c])):=by
           rw [a2B,a6b (fun kv hm e=>by have:=(Q9 cs 1 kv hm).2.1; omega)]
           rw [show ((cs.length + 1:Nat):Int)=1 + (cs.length:Int) by omega]
          show grd (small (v5 (v7 1 cs)).length) (some (SR.nx _))=_
          rw [A4 (by show _≤1000000; rw [show (v5 (v7 1 cs)).length=(v7 1 cs).length from List.length_map _,a00]; omega)]
          unfold soE
          rw [← ep]
          rfl
         have s14:u6 4 (mSl (d8 4) (M.pure none) (a7F (mMt "list" a4z (d8 4) (c9 (mUn a0U (g9 B0 (d8 10) (mUn a0U (mC (.int 1))))) j5)))) (soE v cs0 (cs++[c]) (st++[sp]) ch (some (.ow false (.dct (l7 ts)))) (some (.ow false (.dct (l7 rs)))) (some (.sh (.int k))) (some (.ow false (.lst ((C8 v ts).map D.int)))) (some (.sh (L4 sp))) (some (.sh (.tup (c.map D.int)))))=some (.nx (soE v cs0 (cs++[c]) (st++[sp]) (ch.takeWhile fun x=>!decide (x=-l)) (some (.ow false (.dct (l7 ts)))) (some (.ow false (.dct (l7 rs)))) (some (.sh (.int k))) (some (.ow false (.lst ((C8 v ts).map D.int)))) (some (.sh (L4 sp))) (some (.sh (.tup (c.map D.int)))))):=by
          rw [← j2]
          exact r8 (b7y (d7 rfl) b7S (b4b (b8h (d7 rfl) rfl rfl (d9 (a0Y (i7 (d7 rfl) (a0Y l8 rfl rfl) rfl rfl (b2r hg)) rfl rfl) j4) rfl rfl (b2j j1)) rfl) rfl (b5y ch j)) rfl
         refine a3h (a0T h0 h1 cs0 n (cs++[c]) (st++[sp]) (ch.takeWhile fun x=>!decide (x=-l)) (some (.ow false (.dct (l7 ts)))) (some (.ow false (.dct (l7 rs)))) (some (.sh (.int k))) (some (.ow false (.lst ((C8 v ts).map D.int)))) (some (.sh (L4 sp))) (some (.sh (.tup (c.map D.int)))) r h) fun a b ρ ih=>?_
         exact ⟨a,b,ρ,a1Z cT (i8 s5 (i8 s6 (i8 s7 (i8 s8 (M9 c7 rfl (i8 s9 (i8 s10 (i8 s11 (i8 (A7 c12 cne P4) (i8 s13 s14)))))))))) ih⟩
        ·rw [if_neg hin] at h; cases h
     ·rw [if_neg hl] at h; cases h
    | none=>
     have h:(match C8 v ts with
      | []=>some (some (a4O v ts),[])
      | x::_=>v9 v n cs st (ch++[-x]))=some r:=h
     have c7:x9 (mUn (fun d=>vB (!X7 d)) (d8 7)) (soE v cs0 cs st ch (some (.ow false (.dct (l7 ts)))) (some (.ow false (.dct (l7 rs)))) (some (.sh .w6)) (some (.ow false (.lst ((C8 v ts).map D.int)))) o9 o10)=some (.ok false (soE v cs0 cs st ch (some (.ow false (.dct (l7 ts)))) (some (.ow false (.dct (l7 rs)))) (some (.sh .w6)) (some (.ow false (.lst ((C8 v ts).map D.int)))) o9 o10)):=A0 (a0Y (d7 rfl) rfl rfl)
     cases hf:C8 v ts with
     | nil=>
      rw [hf] at h c7 s8
      cases h
      have all:∀ x∈(List.range v.toNat).map (fun k=>(1:Int) + ((k:Nat):Int)),(l5 ts x).isSome=true:=fun x hx=>by
       cases hh:(l5 ts x).isSome with
       | true=>rfl
       | false=>
        have:x∈C8 v ts:=List.mem_filter.mpr ⟨hx,by rw [hh]; rfl⟩
        rw [hf] at this
        cases this
      have c8:a01 (d8 8) (soE v cs0 cs st ch (some (.ow false (.dct (l7 ts)))) (some (.ow false (.dct (l7 rs)))) (some (.sh .w6)) (some (.ow false (.lst []))) o9 o10)=some (.ok false (soE v cs0 cs st ch (some (.ow false (.dct (l7 ts)))) (some (.ow false (.dct (l7 rs)))) (some (.sh .w6)) (some (.ow false (.lst []))) o9 o10)):=Y5 (d7 rfl) rfl rfl
      have m9:=O6 (mi:=a0O ints2 (c9 (mC (.int 1)) (c9 (g9 O8 (d8 0) (mC (.int 1))) j5))) (own:=1) (fr:=[5]) (a5T h0 h1 (ρ:=soE v cs0 cs st ch (some (.ow false (.dct (l7 ts)))) (some (.ow false (.dct (l7 rs)))) (some (.sh .w6)) (some (.ow false (.lst []))) o9 o10) rfl) (A9 (by rw [List.length_map,List.length_map,List.length_range]; omega)) (b0u all) (.inl (F4 _))
      exact ⟨_,_,_,a3K cT (i8 s5 (i8 s6 (i8 s7 (i8 s8 (A7 c7 rfl (A7 c8 rfl (E7 (O7 (d9 (C4 (d9 m9 j4) rfl rfl) (d9 (U3 j4 rfl (Nat.le_of_ble_eq_true rfl)) j4)) rfl (Nat.le_of_ble_eq_true rfl)) rfl)))))))⟩
     | cons x xs=>
      rw [hf] at h c7 s8
      have h:v9 v n cs st (ch++[-x])=some r:=h
      have c8:a01 (d8 8) (soE v cs0 cs st ch (some (.ow false (.dct (l7 ts)))) (some (.ow false (.dct (l7 rs)))) (some (.sh .w6)) (some (.ow false (.lst ((x::xs).map D.int)))) o9 o10)=some (.ok true (soE v cs0 cs st ch (some (.ow false (.dct (l7 ts)))) (some (.ow false (.dct (l7 rs)))) (some (.sh .w6)) (some (.ow false (.lst ((x::xs).map D.int)))) o9 o10)):=Y5 (d7 rfl) rfl rfl
      have ix0:B0 (.lst ((x::xs).map D.int)) (.int 0)=some (.val (.int x)):=by simp [B0,L2.atI,ixN]
      have s9:V0 (O5 4 (c9 (mUn a0U (g9 B0 (d8 8) (mC (.int 0)))) j5)) (soE v cs0 cs st ch (some (.ow false (.dct (l7 ts)))) (some (.ow false (.dct (l7 rs)))) (some (.sh .w6)) (some (.ow false (.lst ((x::xs).map D.int)))) o9 o10)=some (.nx (soE v cs0 cs st (ch++[-x]) (some (.ow false (.dct (l7 ts)))) (some (.ow false (.dct (l7 rs)))) (some (.sh .w6)) (some (.ow false (.lst ((x::xs).map D.int)))) o9 o10)):=by
       refine a3R rfl (d9 (a0Y (i7 (d7 rfl) l8 rfl rfl ix0) rfl rfl) j4) rfl rfl (A9 (by rw [List.length_map]; omega)) ?_
       unfold soE
       rw [b1v]
       rfl
      refine a3h (a0T h0 h1 cs0 n cs st (ch++[-x]) (some (.ow false (.dct (l7 ts)))) (some (.ow false (.dct (l7 rs)))) (some (.sh .w6)) (some (.ow false (.lst ((x::xs).map D.int)))) o9 o10 r h) fun a b ρ ih=>?_
      exact ⟨a,b,ρ,a1Z cT (i8 s5 (i8 s6 (i8 s7 (i8 s8 (A7 c7 rfl (M9 c8 rfl s9)))))) ih⟩
  ·rw [if_neg hok] at h; cases h
theorem a8E {v:Int}{n:Nat}{cs:List (List Int)}{st:List Stp}{ch:List Int}{r:Option (List Int)×List Stp}(h:v9 v n cs st ch=some r):okS cs st ch=true:=by
 cases n with
 | zero=>cases h
 | succ n=>
  unfold v9 at h
  split at h
  ·assumption
  ·cases h
theorem b0x {v:Int}{cs:List (List Int)}{r:Option (List Int)×List Stp}(h0:0≤v)(h1:v≤1000)(h:v9 v 99999 cs [] []=some r):T8 [.int v,.lst (J2 cs)]=some (.ret (.val (.tup [b6a r.1,.lst (r.2.map L4)])) []):=by
 show z9 a0q 11 [false,false] _=_
 refine a3h (a0T h0 h1 cs 99999 cs [] [] none none none none none none r h) fun a b' ρ hL=>?_
 have ok:=b1H (a8E h)
 have s1:u6 2 (w5 [false] J1 (c9 (d8 1) j5)) (A1 11 [false,false] [.int v,.lst (J2 cs)])=some (.nx [some (.sh (.int v)),some (.sh (.lst (J2 cs))),some (.ow false (.dct (v5 (v7 1 cs)))),none,none,none,none,none,none,none,none]):=by
  refine r8 (L8 (d9 (d7 rfl) j4) rfl rfl (a28 (by omega)) rfl ?_) rfl
  rw [Bool.and_eq_true]
  refine ⟨?_,rfl⟩
  show (v5 (v7 1 cs)).all (fun e=>Q6 e.2)=true
  unfold v5
  rw [List.all_map,List.all_eq_true]
  intro kv _
  exact T6 kv.2
 have s2:u6 3 (a0N j5) [some (.sh (.int v)),some (.sh (.lst (J2 cs))),some (.ow false (.dct (v5 (v7 1 cs)))),none,none,none,none,none,none,none,none]=some (.nx [some (.sh (.int v)),some (.sh (.lst (J2 cs))),some (.ow false (.dct (v5 (v7 1 cs)))),some (.ow false (.lst [])),none,none,none,none,none,none,none]):=r8 (U3 j4 rfl (Nat.le_of_ble_eq_true rfl)) rfl
 have s3:u6 4 (a0N j5) [some (.sh (.int v)),some (.sh (.lst (J2 cs))),some (.ow false (.dct (v5 (v7 1 cs)))),some (.ow false (.lst [])),none,none,none,none,none,none,none]=some (.nx (soE v cs cs [] [] none none none none none none)):=r8 (U3 j4 rfl (Nat.le_of_ble_eq_true rfl)) rfl
 exact K8 (i8 s1 (i8 s2 (i8 s3 hL))) rfl
theorem a9I {acc:List Int}{l x:Int}:x∈P7 acc l↔x∈acc∨x=l:=by
 unfold P7
 split
 ·rename_i h
  constructor
  ·exact .inl
  ·rintro (h' | rfl)
   ·exact h'
   ·exact h
 ·simp
theorem b4W {acc:List Int}{l:Int}(h:acc.Nodup):(P7 acc l).Nodup:=by
 unfold P7
 split
 ·exact h
 ·rename_i hn
  rw [List.nodup_append]
  refine ⟨h,by simp,fun a ha b hb e=>?_⟩
  rw [List.mem_singleton] at hb
  exact hn (by rw [← hb,← e]; exact ha)
theorem a2v:∀ (ks nd:List Int) (x:Int),x∈ks.foldl P7 nd↔x∈nd∨x∈ks
 | [],nd,x=>by simp
 | k::ks,nd,x=>by
  rw [List.foldl_cons,a2v ks,a9I,List.mem_cons]
  constructor
  ·rintro ((h | h) | h)
   ·exact .inl h
   ·exact .inr (.inl h)
   ·exact .inr (.inr h)
  ·rintro (h | h | h)
   ·exact .inl (.inl h)
   ·exact .inl (.inr h)
   ·exact .inr h
theorem a59 {c:List Int}{x:Int}:x∈S3 c↔∃ l∈c,t8 l=x:=by
 unfold S3
 rw [a2v,List.mem_map]
 simp
theorem a7z (ts:C2):∀ (ls acc:List Int) (x:Int),x∈ls.foldl (a2b ts) acc↔x∈acc∨(x∈ls∧l5 ts (t8 x)≠some (-x))
 | [],acc,x=>by simp
 | l::ls,acc,x=>by
  rw [List.foldl_cons,a7z ts ls,List.mem_cons]
  have e:x∈a2b ts acc l↔x∈acc∨(x=l∧l5 ts (t8 x)≠some (-x)):=by
   unfold a2b
   split
   ·rename_i h
    constructor
    ·exact .inl
    ·rintro (h' | ⟨rfl,h'⟩)
     ·exact h'
     ·exact absurd h h'
   ·rename_i h
    rw [a9I]
    constructor
    ·rintro (h' | rfl)
     ·exact .inl h'
     ·exact .inr ⟨rfl,h⟩
    ·rintro (h' | ⟨rfl,_⟩)
     ·exact .inl h'
     ·exact .inr rfl
  rw [e]
  constructor
  ·rintro ((h | ⟨h,h'⟩) | ⟨h,h'⟩)
   ·exact .inl h
   ·exact .inr ⟨.inl h,h'⟩
   ·exact .inr ⟨.inr h,h'⟩
  ·rintro (h | ⟨h | h,h'⟩)
   ·exact .inl (.inl h)
   ·exact .inl (.inr ⟨h,h'⟩)
   ·exact .inr ⟨h,h'⟩
theorem S5 {ts:C2}{c:List Int}{x:Int}:x∈y9 ts c↔x∈c∧l5 ts (t8 x)≠some (-x):=by
 unfold y9
 rw [a7z]
 simp
theorem a7R (ts:C2):∀ (ls acc:List Int),acc.Nodup→(ls.foldl (a2b ts) acc).Nodup
 | [],acc,h=>h
 | l::ls,acc,h=>by
  rw [List.foldl_cons]
  refine a7R ts ls _ ?_
  unfold a2b
  split
  ·exact h
  ·exact b4W h
theorem a9j (ts:C2)(c:List Int):(y9 ts c).Nodup:=a7R ts c [] List.nodup_nil
theorem a3m {x:Int}:∀ {X:List Int},X.Nodup→(∀ y∈X,y=x)→X=[]∨X=[x]
 | [],_,_=>.inl rfl
 | [a],_,h=>by rw [h a List.mem_cons_self]; exact .inr rfl
 | a::b::X,hd,h=>by
  rw [List.nodup_cons] at hd
  have e1:=h a List.mem_cons_self
  have e2:=h b (List.mem_cons_of_mem _ List.mem_cons_self)
  exact absurd (by rw [e1,e2]; exact List.mem_cons_self) hd.1
theorem a09 {ts:C2}{k l:Int}(h:l5 ts k=some l):(k,l)∈ts:=by
 unfold l5 at h
 cases e:ts.find? fun kv=>decide (kv.1=k) with
 | none=>rw [e] at h; cases h
 | some kv=>
  rw [e] at h
  have h1:=List.mem_of_find?_eq_some e
  have h2:=List.find?_some e
  simp at h2 h
  rw [← h2,← h]
  exact h1
theorem F7 {ts:C2}{k:Int}:l5 ts k=none↔∀ kv∈ts,kv.1≠k:=by
 unfold l5
 rw [Option.map_eq_none_iff,List.find?_eq_none]
 simp
theorem a2q (ts us:C2)(k:Int):l5 (ts++us) k=(l5 ts k).or (l5 us k):=by
 unfold l5
 rw [List.find?_append]
 cases ts.find? (fun kv=>decide (kv.1=k)) <;> rfl
theorem a2f {ts:C2}{k v:Int}(h:l5 ts k=none):E4 ts k v=ts++[(k,v)]:=by
 unfold E4
 rw [if_neg]
 intro e
 refine c6 (List.any_eq_true.mp e) fun x hx hk=>?_
 exact F7.mp h x hx (of_decide_eq_true hk)
theorem a6k (x:Int):t8 (-x)=t8 x:=by unfold t8; rw [Int.natAbs_neg]
inductive Gr (T:Tab) (t0:C2):C2→C2→Prop
 | base:Gr T t0 t0 []
 | step {ts rs:C2} {n l:Int} {c:List Int}:Gr T t0 ts rs→(n,c)∈T→y9 ts c=[l]→l5 ts (t8 l)=none→Gr T t0 (ts++[(t8 l,l)]) (rs++[(t8 l,n)])
section
variable {T:Tab}{t0:C2}
theorem Gr.b45 {ts rs:C2}(g:Gr T t0 ts rs):∀ kv∈rs,∃ l,(kv.1,l)∈ts:=by
 induction g with
 | base=>intro kv h; cases h
 | step _ _ _ _ ih=>
  intro kv h
  refine Or.elim (List.mem_append.mp h) (fun h=>?_) fun h=>?_
  ·refine g8 (ih kv h) fun l hl=>?_
   exact ⟨l,List.mem_append_left _ hl⟩
  ·rw [List.mem_singleton] at h
   rw [h]
   exact ⟨_,List.mem_append_right _ List.mem_cons_self⟩
theorem Gr.b87 {ts rs:C2}(g:Gr T t0 ts rs):ts.length=t0.length + rs.length:=by
 induction g with
 | base=>rfl
 | step _ _ _ _ ih=>rw [List.length_append,List.length_append,ih]; rfl
theorem Gr.a7Q {ts rs:C2}(g:Gr T t0 ts rs){k l:Int}(h:l5 t0 k=some l):l5 ts k=some l:=by
 induction g with
 | base=>exact h
 | step _ _ _ _ ih=>rw [a2q,ih]; rfl
theorem Gr.put {ts rs:C2}(g:Gr T t0 ts rs){n l:Int}{c:List Int}(hm:(n,c)∈T)(ho:y9 ts c=[l])(hn:l5 ts (t8 l)=none):Gr T t0 (E4 ts (t8 l) l) (E4 rs (t8 l) n):=by
 rw [a2f hn,a2f (F7.mpr fun kv h e=>?_)]
 ·exact .step g hm ho hn
 ·refine g8 (g.b45 kv h) fun q hq=>?_
  exact F7.mp hn _ hq e
theorem b0U (ts rs:C2)(g:Bool)(kv:Int×List Int)(U:Tab):F5 ts rs g (kv::U)=match scan1 ts rs g kv.1 (y9 ts kv.2) with | none=>(some kv.1,ts,rs,g) | some (ts',rs',g')=>F5 ts' rs' g' U:=rfl
structure Scn (T:Tab) (t0 ts rs:C2) (g:Bool) (U:Tab) (z:Option Int×C2×C2×Bool):Prop where
 gr:Gr T t0 z.2.1 z.2.2.1
 cf:∀ k,z.1=some k→∃ c,(k,c)∈T∧y9 z.2.1 c=[]
 fx:z.1=none→z.2.2.2=false→g=false∧z.2.1=ts∧z.2.2.1=rs∧∀ kv∈U,y9 ts kv.2≠[]∧∀ l,y9 ts kv.2=[l]→l5 ts (t8 l)≠none
 lt:z.2.2.2=true→g=true∨ts.length < z.2.1.length
 le:ts.length≤z.2.1.length
theorem a3T:∀ (U:Tab) (ts rs:C2) (g:Bool),Gr T t0 ts rs→(∀ kv∈U,kv∈T)→Scn T t0 ts rs g U (F5 ts rs g U)
 | [],ts,rs,g,h,_=>⟨h,fun k z=>(by cases z),fun _ z=>⟨z,rfl,rfl,fun kv hk=>(by cases hk)⟩,fun z=>.inl z,Nat.le_refl _⟩
 | kv::U,ts,rs,g,h,hU=>by
  have hm:=hU kv List.mem_cons_self
  have hU':∀ x∈U,x∈T:=fun x hx=>hU x (List.mem_cons_of_mem _ hx)
  rw [b0U]
  cases ho:y9 ts kv.2 with
  | nil=>exact ⟨h,fun k z=>⟨kv.2,by cases z; exact hm,ho⟩,fun z=>(by cases z),fun z=>.inl z,Nat.le_refl _⟩
  | cons a X=>
   cases X with
   | nil=>
    cases hs:l5 ts (t8 a) with
    | some q=>
     rw [show scan1 ts rs g kv.1 [a]=some (ts,rs,g) from if_pos (by rw [hs]; rfl)]
     have ih:=a3T U ts rs g h hU'
     refine ⟨ih.gr,ih.cf,fun z1 z2=>?_,ih.lt,ih.le⟩
     refine a1w (ih.fx z1 z2) fun a1 a2 a3 a4=>?_
     refine ⟨a1,a2,a3,fun x hx=>?_⟩
     rcases List.mem_cons.mp hx with rfl | hx
     ·rw [ho]
      refine ⟨by simp,fun l e=>?_⟩
      cases e
      rw [hs]
      simp
     ·exact a4 x hx
    | none=>
     rw [show scan1 ts rs g kv.1 [a]=some (E4 ts (t8 a) a,E4 rs (t8 a) kv.1,true) from if_neg (by rw [hs]; simp)]
     have ih:=a3T U _ _ true (h.put hm ho hs) hU'
     have hl:(E4 ts (t8 a) a).length=ts.length + 1:=by rw [a2f hs,List.length_append]; rfl
     have le:=ih.le
     rw [hl] at le
     exact ⟨ih.gr,ih.cf,fun z1 z2=>(by cases (ih.fx z1 z2).1),fun _=>.inr (by show ts.length < (F5 (E4 ts (t8 a) a) (E4 rs (t8 a) kv.1) true U).2.1.length; omega),by show ts.length≤(F5 (E4 ts (t8 a) a) (E4 rs (t8 a) kv.1) true U).2.1.length; omega⟩
   | cons b X=>
    have ih:=a3T U ts rs g h hU'
    refine ⟨ih.gr,ih.cf,fun z1 z2=>?_,ih.lt,ih.le⟩
    refine a1w (ih.fx z1 z2) fun a1 a2 a3 a4=>?_
    refine ⟨a1,a2,a3,fun x hx=>?_⟩
    rcases List.mem_cons.mp hx with rfl | hx
    ·rw [ho]
     exact ⟨by simp,fun l e=>(by cases e)⟩
    ·exact a4 x hx
structure Spr (T:Tab) (t0:C2) (z:Option Int×C2×C2):Prop where
 gr:Gr T t0 z.2.1 z.2.2
 cf:∀ k,z.1=some k→∃ c,(k,c)∈T∧y9 z.2.1 c=[]
 fx:z.1=none→∀ kv∈T,y9 z.2.1 kv.2≠[]∧∀ l,y9 z.2.1 kv.2=[l]→l5 z.2.1 (t8 l)≠none
theorem a5s {m:Nat}(hm:∀ ts rs,Gr T t0 ts rs→ts.length≤m):∀ (n:Nat) (ts rs:C2),Gr T t0 ts rs→m < n + ts.length→∃ z,M4 T n ts rs=some z∧Spr T t0 z
 | 0,ts,rs,h,hn=>by have:=hm ts rs h; omega
 | n + 1,ts,rs,h,hn=>by
  have S:=a3T T ts rs false h (fun _ h=>h)
  have e:M4 T (n + 1) ts rs=match F5 ts rs false T with
   | (some k,ts',rs',_)=>some (some k,ts',rs')
   | (none,ts',rs',false)=>some (none,ts',rs')
   | (none,ts',rs',true)=>M4 T n ts' rs':=rfl
  rw [e]
  match hz:F5 ts rs false T,S with
  | (some k,ts',rs',g'),S=>exact ⟨_,rfl,S.gr,S.cf,fun z=>(by cases z)⟩
  | (none,ts',rs',false),S=>
   refine a1w (S.fx rfl rfl) fun _ a2 a3 a4=>?_
   have a2:ts'=ts:=a2
   subst a2
   exact ⟨_,rfl,S.gr,fun k z=>(by cases z),fun _=>a4⟩
  | (none,ts',rs',true),S=>
   have lt:ts.length < ts'.length:=by
    refine Or.elim (S.lt rfl) (fun z=>?_) fun z=>?_
    ·cases z
    ·exact z
   exact a5s hm n ts' rs' S.gr (by omega)
end
inductive Pg (T:Tab) (t0:C2):C2→List Int→Prop
 | nil:Pg T t0 t0 []
 | snoc {ts:C2} {hs:List Int} {h l:Int} {c:List Int}:Pg T t0 ts hs→I9 T h=some c→y9 ts c=[l]→l5 ts (t8 l)=none→Pg T t0 (ts++[(t8 l,l)]) (hs++[h])
theorem Pg.len {T:Tab}{t0 ts:C2}{hs:List Int}(g:Pg T t0 ts hs):ts.length=t0.length + hs.length:=by
 induction g with
 | nil=>rfl
 | snoc _ _ _ _ ih=>rw [List.length_append,List.length_append,ih]; rfl
noncomputable abbrev chT (ch:List Int):C2:=ch.map fun l=>(t8 l,l)
noncomputable abbrev Uq (ts:C2):Prop:=∀ k l l',(k,l)∈ts→(k,l')∈ts→l=l'
theorem Gr.uq {T:Tab}{t0 ts rs:C2}(h0:Uq t0)(g:Gr T t0 ts rs):Uq ts:=by
 induction g with
 | base=>exact h0
 | @step ts rs n l c g hm ho hn ih=>
  have no:∀ k q,(k,q)∈ts→k≠t8 l:=fun k q h=>F7.mp hn _ h
  intro k a b ha hb
  rcases List.mem_append.mp ha with ha | ha <;> rcases List.mem_append.mp hb with hb | hb
  ·exact ih k a b ha hb
  ·rw [List.mem_singleton] at hb; cases hb; exact absurd rfl (no _ _ ha)
  ·rw [List.mem_singleton] at ha; cases ha; exact absurd rfl (no _ _ hb)
  ·rw [List.mem_singleton] at ha hb; cases ha; cases hb; rfl
theorem a3X {D:List Int}{k q:Int}(h:(k,q)∈chT D):q∈D∧t8 q=k:=by
 refine c6 (List.mem_map.mp h) fun x hx e=>?_
 cases e
 exact ⟨hx,rfl⟩
theorem a4k {D:List Int}{ts:C2}(hD:∀ l∈D,(t8 l,l)∈ts)(uq:Uq ts){l:Int}(hl:l∈D):l5 (chT D) (t8 l)=some l:=by
 cases e:l5 (chT D) (t8 l) with
 | none=>exact absurd rfl (F7.mp e _ (List.mem_map_of_mem hl))
 | some q=>
  refine f9 (a3X (a09 e)) fun q1 q2=>?_
  have z:=hD q q1
  rw [q2] at z
  rw [uq _ _ _ z (hD l hl)]
theorem a5R (T:Tab)(rs:C2)(x:Int)(xs hs nd:List Int):O1 T rs (x::xs) hs nd=if x∈nd∧(l5 rs x).isSome=true then (I9 T ((l5 rs x).getD 0)).bind fun c=>O1 T rs xs (hs++[(l5 rs x).getD 0]) ((S3 c).foldl P7 nd) else O1 T rs xs hs nd:=rfl
theorem b0l {T:Tab}{rs:C2}{xs:List Int}(hs nd:List Int)(h:∀ x∈xs,l5 rs x=none):O1 T rs xs hs nd=some (hs,nd):=by
 induction xs with
 | nil=>rfl
 | cons x xs ih=>
  rw [a5R,if_neg (by rw [h x List.mem_cons_self]; exact fun z=>Bool.false_ne_true z.2)]
  exact ih fun y hy=>h y (List.mem_cons_of_mem _ hy)
structure Bk (T:Tab) (ch:List Int) (ts:C2) (nd0 hs nd D:List Int):Prop where
 sub:∀ x∈nd0,x∈nd
 key:∀ x∈nd,x∈nd0∨∃ l,(x,l)∈ts
 go:Pg T (chT (ch.filter fun l=>decide (t8 l∈nd))) (chT D) hs.reverse
 all:∀ kv∈ts,kv.1∈nd→kv.2∈D
 tru:∀ l∈D,(t8 l,l)∈ts
theorem b0B {T:Tab}{ch:List Int}(hnd:(T.map (·.1)).Nodup)(u0:Uq (chT ch)){ts rs:C2}(g:Gr T (chT ch) ts rs):∀ (rsF:C2),(∀ kv∈ts,l5 rsF kv.1=l5 rs kv.1)→∀ (hs0 nd0:List Int),∃ hs nd D,O1 T rsF (ts.map (·.1)).reverse hs0 nd0=some (hs0++hs,nd)∧Bk T ch ts nd0 hs nd D:=by
 induction g with
 | base=>
  intro rsF hF hs0 nd0
  refine ⟨[],nd0,ch.filter fun l=>decide (t8 l∈nd0),?_,fun _ h=>h,fun _ h=>.inl h,.nil,fun kv hk h=>?_,fun l hl=>?_⟩
  ·rw [List.append_nil]
   refine b0l hs0 nd0 fun x hx=>?_
   rw [List.mem_reverse] at hx
   refine c6 (List.mem_map.mp hx) fun kv hk Z1=>?_; subst Z1
   exact hF kv hk
  ·refine c6 (List.mem_map.mp hk) fun l hl Z1=>?_; subst Z1
   exact List.mem_filter.mpr ⟨hl,decide_eq_true h⟩
  ·exact List.mem_map.mpr ⟨l,(List.mem_filter.mp hl).1,rfl⟩
 | @step ts rs n l c g hm ho hn ih=>
  intro rsF hF hs0 nd0
  have hr:l5 rs (t8 l)=none:=F7.mpr fun kv h e=>by
   refine g8 (g.b45 kv h) fun q hq=>?_
   exact F7.mp hn _ hq e
  have hFl:l5 rsF (t8 l)=some n:=by
   rw [hF (t8 l,l) (List.mem_append_right _ List.mem_cons_self),a2q,hr]
   show l5 [(t8 l,n)] (t8 l)=_
   unfold l5
   rw [List.find?_cons_of_pos (by exact decide_eq_true rfl)]
   rfl
  have hF':∀ kv∈ts,l5 rsF kv.1=l5 rs kv.1:=fun kv hk=>by
   rw [hF kv (List.mem_append_left _ hk),a2q]
   have:l5 [(t8 l,n)] kv.1=none:=F7.mpr fun x hx=>by
    rw [List.mem_singleton] at hx
    rw [hx]
    exact fun z=>F7.mp hn kv hk z.symm
   rw [this]
   cases l5 rs kv.1 <;> rfl
  have hc:I9 T n=some c:=a6u hnd hm
  have uq:=g.uq u0
  have vars:∀ y∈c,y=l∨l5 ts (t8 y)=some (-y):=fun y hy=>by
   by_cases z:l5 ts (t8 y)=some (-y)
   ·exact .inr z
   ·have:y∈y9 ts c:=S5.mpr ⟨hy,z⟩
    rw [ho,List.mem_singleton] at this
    exact .inl this
  have lc:l∈c:=(S5.mp (by rw [ho]; exact List.mem_cons_self)).1
  have er:((ts++[(t8 l,l)]).map (·.1)).reverse=t8 l::(ts.map (·.1)).reverse:=by rw [List.map_append,List.reverse_append]; rfl
  rw [er,a5R]
  by_cases hx:t8 l∈nd0
  ·rw [if_pos ⟨hx,by rw [hFl]; rfl⟩,hFl]
   show ∃ hs nd D,(I9 T n).bind (fun c=>O1 T rsF (ts.map (·.1)).reverse (hs0++[n]) ((S3 c).foldl P7 nd0))=some (hs0++hs,nd)∧_
   rw [hc]
   refine D0 (ih rsF hF' (hs0++[n]) ((S3 c).foldl P7 nd0)) fun hs nd D hb B=>?_
   have inn:∀ y∈c,t8 y∈nd:=fun y hy=>B.sub _ ((a2v _ _ _).mpr (.inr (a59.mpr ⟨y,hy,rfl⟩)))
   have nD:l5 (chT D) (t8 l)=none:=F7.mpr fun kv hk e=>by
    refine f9 (a3X (show (kv.1,kv.2)∈chT D from hk)) fun q1 q2=>?_
    exact F7.mp hn _ (B.tru _ q1) (q2.trans e)
   have ol:y9 (chT D) c=[l]:=by
    have h1:∀ y∈y9 (chT D) c,y=l:=fun y hy=>by
     refine f9 (S5.mp hy) fun y1 y2=>?_
     refine Or.elim (vars y y1) (fun e=>?_) fun e=>?_
     ·exact e
     ·have:=a4k B.tru uq (B.all _ (a09 e) (inn y y1))
      rw [a6k] at this
      exact absurd this y2
    have h2:l∈y9 (chT D) c:=S5.mpr ⟨lc,by rw [nD]; exact fun z=>nomatch z⟩
    refine Or.elim (a3m (a9j (chT D) c) h1) (fun e=>?_) fun e=>?_
    ·rw [e] at h2; cases h2
    ·exact e
   refine ⟨n::hs,nd,D++[l],by rw [show hs0++n::hs=hs0++[n]++hs by rw [List.append_assoc]; rfl]; exact hb,fun x h=>B.sub x ((a2v _ _ _).mpr (.inl h)),fun x h=>?_,?_,fun kv hk h=>?_,fun y hy=>?_⟩
   ·refine Or.elim (B.key x h) (fun h=>?_) fun Z1=>g8 (Z1) fun q h=>?_
    ·refine Or.elim ((a2v _ _ _).mp h) (fun h=>?_) fun h=>?_
     ·exact .inl h
     ·refine c6 (a59.mp h) fun y y1 Z1=>?_; subst Z1
      refine Or.elim (vars y y1) (fun e=>?_) fun e=>?_
      ·rw [e]; exact .inr ⟨l,List.mem_append_right _ List.mem_cons_self⟩
      ·exact .inr ⟨-y,List.mem_append_left _ (a09 e)⟩
    ·exact .inr ⟨q,List.mem_append_left _ h⟩
   ·rw [List.reverse_cons,show chT (D++[l])=chT D++[(t8 l,l)] from List.map_append]
    exact B.go.snoc hc ol nD
   ·refine Or.elim (List.mem_append.mp hk) (fun hk=>?_) fun hk=>?_
    ·exact List.mem_append_left _ (B.all kv hk h)
    ·rw [List.mem_singleton] at hk
     rw [hk]
     exact List.mem_append_right _ List.mem_cons_self
   ·refine Or.elim (List.mem_append.mp hy) (fun hy=>?_) fun hy=>?_
    ·exact List.mem_append_left _ (B.tru y hy)
    ·rw [List.mem_singleton] at hy
     rw [hy]
     exact List.mem_append_right _ List.mem_cons_self
  ·rw [if_neg (fun z=>hx z.1)]
   refine D0 (ih rsF hF' hs0 nd0) fun hs nd D hb B=>?_
   refine ⟨hs,nd,D,hb,B.sub,fun x h=>?_,B.go,fun kv hk h=>?_,fun y hy=>List.mem_append_left _ (B.tru y hy)⟩
   ·refine Or.elim (B.key x h) (fun h=>?_) fun Z1=>g8 (Z1) fun q h=>?_
    ·exact .inl h
    ·exact .inr ⟨q,List.mem_append_left _ h⟩
   ·refine Or.elim (List.mem_append.mp hk) (fun hk=>?_) fun hk=>?_
    ·exact B.all kv hk h
    ·rw [List.mem_singleton] at hk
     subst hk
     refine Or.elim (B.key _ h) (fun h=>?_) fun Z1=>g8 (Z1) fun q h=>?_
     ·exact absurd h hx
     ·exact absurd rfl (F7.mp hn _ h)
noncomputable def Pld (T:Tab)(c hs:List Int):Prop:=∃ h1 k ts d,hs=h1++[k]∧Pg T (B8 (c.map fun l=>-l)) ts h1∧I9 T k=some d∧y9 ts d=[]
structure Lrn (T:Tab) (ch C hs:List Int):Prop where
 sub:∀ l∈C,-l∈ch
 len:C.length≤ch.length
 go:Pld T C hs
theorem a1O:∀ (ch:List Int) (ts:C2),(ch.map t8).Nodup→(∀ l∈ch,l5 ts (t8 l)=none)→ch.foldl (fun ts l=>E4 ts (t8 l) l) ts=ts++chT ch
 | [],ts,_,_=>(List.append_nil _).symm
 | l::ch,ts,hd,h=>by
  rw [List.map_cons,List.nodup_cons] at hd
  rw [List.foldl_cons,a2f (h l List.mem_cons_self),a1O ch _ hd.2 fun x hx=>?_]
  ·rw [List.append_assoc]; rfl
  ·rw [a2q,h x (List.mem_cons_of_mem _ hx)]
   show l5 [(t8 l,l)] (t8 x)=none
   refine F7.mpr fun kv hk=>?_
   rw [List.mem_singleton] at hk
   rw [hk]
   exact fun z=>hd.1 (by show t8 l∈_; rw [show t8 l=t8 x from z]; exact List.mem_map_of_mem hx)
theorem a7i (F:List Int):(F.map fun l=>-l).map (fun l=>-l)=F:=by
 rw [List.map_map]
 conv=>rhs; rw [← List.map_id F]
 exact List.map_congr_left fun x _=>Int.neg_neg x
theorem b2l {T:Tab}{ch:List Int}(hnd:(T.map (·.1)).Nodup)(hch:(ch.map t8).Nodup)(u0:Uq (chT ch)){ts rs:C2}(g:Gr T (chT ch) ts rs){k:Int}{cc:List Int}(hk:(k,cc)∈T)(ho:y9 ts cc=[]):∃ C hs,Y6 T ch ts rs k=some (C,hs)∧Lrn T ch C hs:=by
 refine D0 (b0B hnd u0 g rs (fun _ _=>rfl) [k] (S3 cc)) fun hs nd D hb B=>?_
 have hc:I9 T k=some cc:=a6u hnd hk
 refine ⟨(ch.filter fun l=>decide (t8 l∈nd)).map (fun l=>-l),hs.reverse++[k],?_,fun l hl=>?_,?_,hs.reverse,k,chT D,cc,rfl,?_,hc,?_⟩
 ·unfold Y6
  rw [hc]
  show (O1 T rs (ts.map (·.1)).reverse [k] (S3 cc)).map _=_
  rw [hb]
  show some (_,([k]++hs).reverse)=_
  rw [List.reverse_append]
  rfl
 ·refine c6 (List.mem_map.mp hl) fun x hx Z1=>?_; subst Z1
  rw [Int.neg_neg]
  exact (List.mem_filter.mp hx).1
 ·rw [List.length_map]
  exact List.length_filter_le _ _
 ·rw [a7i]
  unfold B8
  rw [a1O _ [] ((List.filter_sublist.map t8).nodup hch) fun _ _=>rfl,List.nil_append]
  exact B.go
 ·cases hX:y9 (chT D) cc with
  | nil=>rfl
  | cons y r=>
   refine f9 (S5.mp (show y∈y9 (chT D) cc by rw [hX]; exact List.mem_cons_self)) fun y1 y2=>?_
   have z:l5 ts (t8 y)=some (-y):=Classical.byContradiction fun z=>by
    have:y∈y9 ts cc:=S5.mpr ⟨y1,z⟩
    rw [ho] at this
    cases this
   have:=a4k B.tru (g.uq u0) (B.all _ (a09 z) (B.sub _ (a59.mpr ⟨y,y1,rfl⟩)))
   rw [a6k] at this
   exact absurd this y2
theorem b15:∀ (v:Nat) (xs:List Int),xs.Nodup→(∀ x∈xs,1≤x∧x≤(v:Int))→xs.length≤v
 | 0,xs,_,h=>by
  cases xs with
  | nil=>exact Nat.le_refl _
  | cons a r=>have:=h a List.mem_cons_self; omega
 | v + 1,xs,hd,h=>by
  have ih:=b15 v (xs.erase ((v:Int) + 1)) (hd.erase _) fun x hx=>by
   refine f9 ((hd.mem_erase_iff).mp hx) fun a b=>?_
   have:=h x b
   omega
  have:=List.length_erase (a:=(v:Int) + 1) (l:=xs)
  split at this <;> omega
structure KO (v:Nat) (ts:C2):Prop where
 nd:(ts.map (·.1)).Nodup
 ok:∀ kv∈ts,kv.1=t8 kv.2∧kv.2≠0∧kv.2.natAbs≤v
theorem KO.len {v:Nat}{ts:C2}(h:KO v ts):ts.length≤v:=by
 have:=b15 v (ts.map (·.1)) h.nd fun x hx=>by
  refine c6 (List.mem_map.mp hx) fun kv hk Z1=>?_; subst Z1
  refine n8 (h.ok kv hk) fun a b c=>?_
  rw [a]
  unfold t8
  omega
 rwa [List.length_map] at this
theorem Gr.ko {v:Nat}{T:Tab}{t0 ts rs:C2}(hT:∀ kv∈T,∀ l∈kv.2,l≠0∧l.natAbs≤v)(h0:KO v t0)(g:Gr T t0 ts rs):KO v ts:=by
 induction g with
 | base=>exact h0
 | @step ts rs n l c g hm ho hn ih=>
  have lc:l∈c:=(S5.mp (by rw [ho]; exact List.mem_cons_self)).1
  refine ⟨?_,fun kv hk=>?_⟩
  ·rw [List.map_append,List.nodup_append]
   refine ⟨ih.nd,by simp,fun a ha b hb e=>?_⟩
   refine c6 (List.mem_map.mp ha) fun kv hk Z1=>?_; subst Z1
   have hb:b=t8 l:=by simpa using hb
   exact F7.mp hn kv hk (by rw [e,hb])
  ·refine Or.elim (List.mem_append.mp hk) (fun hk=>?_) fun hk=>?_
   ·exact ih.ok kv hk
   ·rw [List.mem_singleton] at hk
    rw [hk]
    exact ⟨rfl,hT _ hm l lc⟩
structure Chs (v:Nat) (ch:List Int):Prop where
 nd:(ch.map t8).Nodup
 ok:∀ l∈ch,l < 0∧l.natAbs≤v
theorem Chs.ko {v:Nat}{ch:List Int}(h:Chs v ch):KO v (chT ch):=by
 refine ⟨?_,fun kv hk=>?_⟩
 ·rw [List.map_map]
  exact h.nd
 ·refine c6 (List.mem_map.mp hk) fun l hl Z1=>?_; subst Z1
  have:=h.ok l hl
  exact ⟨rfl,by omega,this.2⟩
theorem Chs.len {v:Nat}{ch:List Int}(h:Chs v ch):ch.length≤v:=by
 have:=h.ko.len
 rwa [List.length_map] at this
theorem Chs.b6V {v:Nat}{ch:List Int}(h:Chs v ch):B8 ch=chT ch:=by
 unfold B8
 rw [a1O ch [] h.nd fun _ _=>rfl,List.nil_append]
theorem Chs.uq {v:Nat}{ch:List Int}(h:Chs v ch):Uq (chT ch):=fun k a b ha hb=>by
 refine f9 (a3X ha) fun a1 a2=>?_
 refine f9 (a3X hb) fun b1 b2=>?_
 have:=h.ok a a1
 have:=h.ok b b1
 unfold t8 at a2 b2
 omega
theorem Chs.look {v:Nat}{ch:List Int}(h:Chs v ch){l:Int}(hl:l∈ch):l5 (chT ch) (t8 l)=some l:=a4k (fun _ z=>List.mem_map_of_mem z) h.uq hl
theorem a4x {v:Nat}{x:Int}:x∈(List.range v).map (fun k=>(1:Int) + ((k:Nat):Int))↔1≤x∧x≤(v:Int):=by
 rw [List.mem_map]
 constructor
 ·rintro ⟨k,hk,rfl⟩
  have:=List.mem_range.mp hk
  omega
 ·rintro ⟨h1,h2⟩
  exact ⟨(x - 1).toNat,List.mem_range.mpr (by omega),by omega⟩
noncomputable def a1x:List Int→List (List Int)
 | []=>[[]]
 | x::xs=>a1x xs++(a1x xs).map (x::·)
theorem a5k:∀ xs:List Int,(a1x xs).length=2 ^ xs.length
 | []=>rfl
 | x::xs=>by
  show (a1x xs++(a1x xs).map (x::·)).length=_
  rw [List.length_append,List.length_map,a5k xs,List.length_cons,Nat.pow_succ]
  omega
theorem a5h (p:Int→Bool):∀ xs:List Int,xs.filter p∈a1x xs
 | []=>List.mem_cons_self
 | x::xs=>by
  have ih:=a5h p xs
  show _∈a1x xs++(a1x xs).map (x::·)
  cases h:p x with
  | true=>rw [List.filter_cons_of_pos h]; exact List.mem_append_right _ (List.mem_map_of_mem ih)
  | false=>rw [List.filter_cons_of_neg (by rw [h]; simp)]; exact List.mem_append_left _ ih
theorem filter_lt {α:Type}{p q:α→Bool}(hi:∀ x,q x=true→p x=true){a:α}(h1:p a=true)(h2:q a=false):∀ {l:List α},a∈l→(l.filter q).length < (l.filter p).length
 | x::l,h=>by
  have le:(l.filter q).length≤(l.filter p).length:=by
   rw [← List.countP_eq_length_filter,← List.countP_eq_length_filter]
   exact List.countP_mono_left fun x _=>hi x
  by_cases hx:q x=true
  ·rw [List.filter_cons_of_pos hx,List.filter_cons_of_pos (hi x hx),List.length_cons,List.length_cons]
   have:a∈l:=by
    refine Or.elim (List.mem_cons.mp h) (fun z=>?_) fun z=>?_
    ·rw [z,hx] at h2; cases h2
    ·exact z
   have:=filter_lt hi h1 h2 this
   omega
  ·rw [List.filter_cons_of_neg hx]
   by_cases hp:p x=true
   ·rw [List.filter_cons_of_pos hp,List.length_cons]; omega
   ·rw [List.filter_cons_of_neg hp]
    have:a∈l:=by
     refine Or.elim (List.mem_cons.mp h) (fun z=>?_) fun z=>?_
     ·rw [z] at h1; exact absurd h1 hp
     ·exact z
    exact filter_lt hi h1 h2 this
noncomputable abbrev vrs (v:Nat):List Int:=(List.range v).map (fun k=>(1:Int) + ((k:Nat):Int))
noncomputable def muP (cs:List (List Int))(S:List Int):Bool:=cs.all fun c=>c.any fun l=>!decide (l∈S)
noncomputable def mu (v:Nat)(cs:List (List Int)):Nat:=((a1x (vrs v)).filter (muP cs)).length
theorem b8B (v:Nat)(cs:List (List Int)):mu v cs≤2 ^ v:=by
 have:=List.length_filter_le (muP cs) (a1x (vrs v))
 rw [a5k,List.length_map,List.length_range] at this
 exact this
theorem b7J {v:Nat}{cs:List (List Int)}{ch C:List Int}(hch:Chs v ch)(J:∀ c∈cs,∃ l∈c,-l∉ch)(hC:∀ l∈C,-l∈ch):mu v (cs++[C]) < mu v cs:=by
 refine filter_lt (p:=muP cs) (q:=muP (cs++[C])) (fun S h=>?_) (a:=(vrs v).filter fun x=>decide (x∈C)) ?_ ?_ (a5h _ _)
 ·unfold muP at *
  rw [List.all_append,Bool.and_eq_true] at h
  exact h.1
 ·unfold muP
  rw [List.all_eq_true]
  intro c hc
  refine c6 (J c hc) fun l l1 l2=>?_
  refine List.any_eq_true.mpr ⟨l,l1,?_⟩
  have:l∉(vrs v).filter fun x=>decide (x∈C):=fun z=>l2 (hC l (of_decide_eq_true (List.mem_filter.mp z).2))
  simp only [decide_eq_false this,Bool.not_false]
 ·unfold muP
  rw [List.all_append]
  have:([C].all fun c=>c.any fun l=>!decide (l∈(vrs v).filter fun x=>decide (x∈C)))=false:=by
   show ((C.any fun l=>!decide (l∈(vrs v).filter fun x=>decide (x∈C))) && true)=false
   rw [Bool.and_true,List.any_eq_false]
   intro l hl
   have a:=hch.ok _ (hC l hl)
   have:l∈(vrs v).filter fun x=>decide (x∈C):=List.mem_filter.mpr ⟨a4x.mpr ⟨by omega,by omega⟩,decide_eq_true hl⟩
   rw [decide_eq_true this]
   simp
  rw [this,Bool.and_false]
inductive a4W (v:Nat) (cs0:List (List Int)):List (List Int)→List Stp→Prop
 | nil:a4W v cs0 cs0 []
 | snoc {cs:List (List Int)} {st:List Stp} {c hs:List Int}:a4W v cs0 cs st→c≠[]→hs.length≤30→Pld (v7 1 cs) c hs→(∀ l∈c,0 < l∧l≤(v:Int))→a4W v cs0 (cs++[c]) (st++[(((cs.length + 1:Nat):Int),c,hs)])
theorem a4W.len {v:Nat}{cs0 cs:List (List Int)}{st:List Stp}(h:a4W v cs0 cs st):cs.length=cs0.length + st.length:=by
 induction h with
 | nil=>rfl
 | snoc _ _ _ _ _ ih=>rw [List.length_append,List.length_append,ih]; rfl
theorem a4W.b9G {v:Nat}{cs0 cs:List (List Int)}{st:List Stp}(h:a4W v cs0 cs st){c:List Int}(hc:c∈cs0):c∈cs:=by
 induction h with
 | nil=>exact hc
 | snoc _ _ _ _ _ ih=>exact List.mem_append_left _ ih
inductive Res (v:Nat) (cs0:List (List Int)):Option (List Int)×List Stp→Prop
 | model {f:Nat→Int}:(∀ k,k < v→f k=(k:Int) + 1∨f k=-((k:Int) + 1))→(∀ c∈cs0,∃ l∈c,l∈(List.range v).map f)→Res v cs0 (some ((List.range v).map f),[])
 | none {cs:List (List Int)} {st:List Stp} {hs:List Int}:a4W v cs0 cs st→cs.length≤500→(∀ c∈cs,c.length≤100)→hs.length≤30→Pld (v7 1 cs) [] hs→Res v cs0 (none,st++[(((cs.length + 1:Nat):Int),[],hs)])
structure SI (v:Nat) (cs0 cs:List (List Int)) (st:List Stp) (ch:List Int):Prop where
 stp:a4W v cs0 cs st
 lit:∀ c∈cs,∀ l∈c,l≠0∧l.natAbs≤v
 len:∀ c∈cs,c.length≤100
 chs:Chs v ch
 jj:ch≠[]→∀ c∈cs,∃ l∈c,-l∉ch
 siz:cs.length + mu v cs≤500
theorem a3Z {v:Nat}(hv:v≤18){cs0:List (List Int)}:∀ (n:Nat) (cs:List (List Int)) (st:List Stp) (ch:List Int),SI v cs0 cs st ch→mu v cs * (v + 1) + (v - ch.length) < n→∃ r,v9 (v:Int) n cs st ch=some r∧Res v cs0 r
 | 0,_,_,_,_,h=>absurd h (Nat.not_lt_zero _)
 | n + 1,cs,st,ch,I,hn=>by
  have cl:=I.chs.len
  have sl:=I.stp.len
  have z:=I.siz
  have c5:cs.length≤500:=Nat.le_trans (Nat.le_add_right _ _) z
  have hok:okS cs st ch=true:=by
   unfold okS
   rw [Bool.and_eq_true,List.all_eq_true]
   exact ⟨decide_eq_true ⟨c5,Nat.le_trans (Nat.le_add_left _ _) (sl ▸ c5),Nat.le_trans cl (Nat.le_trans hv (by decide))⟩,fun c hc=>decide_eq_true (I.len c hc)⟩
  have hTl:∀ kv∈v7 1 cs,∀ l∈kv.2,l≠0∧l.natAbs≤v:=fun kv hm=>I.lit _ (Q9 cs 1 kv hm).2.2
  have hT:B8 ch=chT ch:=I.chs.b6V
  obtain ⟨q,hq,S⟩:=a5s (T:=v7 1 cs) (t0:=chT ch) (m:=v) (fun ts rs g=>(g.ko hTl I.chs.ko).len) 99 (chT ch) [] .base (Nat.lt_of_le_of_lt hv (Nat.lt_of_lt_of_le (by decide) (Nat.le_add_right 99 _)))
  have hnd:=a0x cs 1
  have ev:v9 (v:Int) (n + 1) cs st ch=if okS cs st ch=true then match M4 (v7 1 cs) 99 (B8 ch) [] with
   | none=>none
   | some (some k,ts,rs)=>if ts.length≤20∧rs.length≤1000 then match Y6 (v7 1 cs) ch ts rs k with
    | none=>none
    | some (c,hs)=>match c.getLast? with
     | none=>some (none,st++[(((cs.length + 1:Nat):Int),c,hs)])
     | some l=>if -l∈ch then v9 v n (cs++[c]) (st++[(((cs.length + 1:Nat):Int),c,hs)]) (ch.takeWhile fun x=>!decide (x=-l)) else none
    else none
   | some (none,ts,rs)=>match C8 v ts with
    | []=>some (some (a4O v ts),[])
    | x::_=>v9 v n cs st (ch++[-x])
   else none:=rfl
  rw [ev,if_pos hok,hT,hq]
  obtain ⟨qk,ts,rs⟩:=q
  have G:Gr (v7 1 cs) (chT ch) ts rs:=S.gr
  have K:=G.ko hTl I.chs.ko
  have tl:=K.len
  have rl:=G.b87
  cases qk with
  | some k=>
   refine c6 (S.cf k rfl) fun cc hk ho=>?_
   refine l6 (b2l hnd I.chs.nd I.chs.uq G hk ho) fun C hs hL L=>?_
   show ∃ r,(if ts.length≤20∧rs.length≤1000 then match Y6 (v7 1 cs) ch ts rs k with
    | none=>none
    | some (c,hs)=>match c.getLast? with
     | none=>some (none,st++[(((cs.length + 1:Nat):Int),c,hs)])
     | some l=>if -l∈ch then v9 v n (cs++[c]) (st++[(((cs.length + 1:Nat):Int),c,hs)]) (ch.takeWhile fun x=>!decide (x=-l)) else none
    else none)=some r∧_
   have hsl:hs.length≤30:=by
    have:=hL
    unfold Y6 at this
    refine c6 (Option.bind_eq_some_iff.mp this) fun c1 _ h2=>?_
    refine c6 (Option.map_eq_some_iff.mp h2) fun q2 h3 h4=>?_
    have bl:=a2l _ _ _ _ h3
    have e:q2.1.reverse=hs:=congrArg Prod.snd h4
    have e2:=congrArg List.length e
    rw [List.length_reverse] at e2
    rw [List.length_reverse,List.length_map,List.length_singleton] at bl
    omega
   rw [if_pos ⟨Nat.le_trans tl (Nat.le_trans hv (by decide)),Nat.le_trans (Nat.le_add_left _ _) (rl ▸ Nat.le_trans tl (Nat.le_trans hv (by decide)))⟩,hL]
   show ∃ r,(match C.getLast? with
    | none=>some (none,st++[(((cs.length + 1:Nat):Int),C,hs)])
    | some l=>if -l∈ch then v9 v n (cs++[C]) (st++[(((cs.length + 1:Nat):Int),C,hs)]) (ch.takeWhile fun x=>!decide (x=-l)) else none)=some r∧_
   cases hg:C.getLast? with
   | none=>
    have hC:C=[]:=List.getLast?_eq_none_iff.mp hg
    subst hC
    exact ⟨_,rfl,.none I.stp c5 I.len hsl L.go⟩
   | some l=>
    have lC:l∈C:=List.mem_of_getLast? hg
    have hl:=L.sub l lC
    have cne:C≠[]:=fun e=>by rw [e] at lC; cases lC
    have chne:ch≠[]:=fun e=>by rw [e] at hl; cases hl
    have J:=I.jj chne
    have lt:=b7J I.chs J L.sub
    show ∃ r,(if -l∈ch then v9 v n (cs++[C]) (st++[(((cs.length + 1:Nat):Int),C,hs)]) (ch.takeWhile fun x=>!decide (x=-l)) else none)=some r∧_
    rw [if_pos hl]
    have pre:(ch.takeWhile fun x=>!decide (x=-l)).Sublist ch:=(List.takeWhile_prefix _).sublist
    have Clen:=L.len
    refine a3Z hv n (cs++[C]) _ _ ⟨.snoc I.stp cne hsl L.go (fun x hx=>by have:=I.chs.ok _ (L.sub x hx); omega),fun c hc=>?_,fun c hc=>?_,⟨(pre.map t8).nodup I.chs.nd,fun x hx=>I.chs.ok x (pre.subset hx)⟩,fun _ c hc=>?_,?_⟩ ?_
    ·refine Or.elim (List.mem_append.mp hc) (fun hc=>?_) fun hc=>?_
     ·exact I.lit c hc
     ·rw [List.mem_singleton] at hc
      rw [hc]
      intro x hx
      have:=I.chs.ok _ (L.sub x hx)
      omega
    ·refine Or.elim (List.mem_append.mp hc) (fun hc=>?_) fun hc=>?_
     ·exact I.len c hc
     ·rw [List.mem_singleton] at hc
      rw [hc]
      omega
    ·refine Or.elim (List.mem_append.mp hc) (fun hc=>?_) fun hc=>?_
     ·refine c6 (J c hc) fun x x1 x2=>?_
      exact ⟨x,x1,fun y=>x2 (pre.subset y)⟩
     ·rw [List.mem_singleton] at hc
      rw [hc]
      refine ⟨l,lC,fun y=>?_⟩
      have:=List.all_takeWhile (p:=fun x=>!decide (x=-l)) (l:=ch)
      have:=List.all_eq_true.mp this _ y
      simp at this
    ·rw [List.length_append,List.length_singleton]; omega
    ·have h1:mu v (cs++[C]) * (v + 1) + (v + 1)≤mu v cs * (v + 1):=by
      have:=Nat.mul_le_mul_right (v + 1) (show mu v (cs++[C]) + 1≤mu v cs from lt)
      rw [Nat.add_mul,Nat.one_mul] at this
      exact this
     omega
  | none=>
   have fx:=S.fx rfl
   have fx:∀ kv∈v7 1 cs,y9 ts kv.2≠[]∧∀ l,y9 ts kv.2=[l]→l5 ts (t8 l)≠none:=fx
   have fxc:∀ c∈cs,∃ n,(n,c)∈v7 1 cs:=fun c hc=>by
    have:∀ (ds:List (List Int)) (j:Int),c∈ds→∃ n,(n,c)∈v7 j ds:=by
     intro ds
     induction ds with
     | nil=>intro j h; cases h
     | cons d ds ih=>
      intro j h
      rcases List.mem_cons.mp h with rfl | h
      ·exact ⟨j,List.mem_cons_self⟩
      ·refine g8 (ih (j + 1) h) fun m hm=>?_
       exact ⟨m,List.mem_cons_of_mem _ hm⟩
    exact this cs 1 hc
   show ∃ r,(match C8 v ts with
    | []=>some (some (a4O v ts),[])
    | x::_=>v9 v n cs st (ch++[-x]))=some r∧_
   cases hf:C8 v ts with
   | nil=>
    have all:∀ x:Int,1≤x→x≤(v:Int)→∃ l,l5 ts x=some l:=fun x h1 h2=>by
     cases hh:l5 ts x with
     | some l=>exact ⟨l,rfl⟩
     | none=>
      have:x∈C8 v ts:=List.mem_filter.mpr ⟨by rw [Int.toNat_natCast]; exact a4x.mpr ⟨h1,h2⟩,by rw [hh]; rfl⟩
      rw [hf] at this
      cases this
    have key:∀ {x l:Int},l5 ts x=some l→x=t8 l:=fun h=>(K.ok _ (a09 h)).1
    have et:a4O (v:Int) ts=(List.range v).map fun k=>(l5 ts (1 + ((k:Nat):Int))).getD 0:=by
     unfold a4O
     rw [Int.toNat_natCast,List.map_map]
     rfl
    refine ⟨_,rfl,?_⟩
    rw [et]
    refine .model (fun k hk=>?_) fun c hc=>?_
    ·refine g8 (all (1 + (k:Int)) (by omega) (by omega)) fun l hl=>?_
     rw [hl]
     have:=key hl
     unfold t8 at this
     show l=_∨l=_
     omega
    ·refine g8 (fxc c (I.stp.b9G hc)) fun m hm=>?_
     have ne:=(fx _ hm).1
     refine g8 (List.exists_mem_of_ne_nil _ ne) fun y hy=>?_
     refine f9 (S5.mp hy) fun y1 y2=>?_
     have yl:=hTl _ hm y y1
     refine g8 (all (t8 y) (by unfold t8; omega) (by unfold t8; omega)) fun l hl=>?_
     have e:=key hl
     have:l=y:=by
      rw [hl] at y2
      have:l≠-y:=fun z=>y2 (by rw [z])
      unfold t8 at e
      omega
     refine ⟨y,y1,List.mem_map.mpr ⟨y.natAbs - 1,List.mem_range.mpr (by omega),?_⟩⟩
     have e2:(1:Int) + ((y.natAbs - 1:Nat):Int)=t8 y:=by unfold t8; omega
     rw [e2,hl,this]
     rfl
   | cons x xs=>
    have hx:x∈C8 v ts:=by rw [hf]; exact List.mem_cons_self
    refine f9 (List.mem_filter.mp hx) fun x1 x2=>?_
    rw [Int.toNat_natCast] at x1
    have x1:=a4x.mp x1
    have xn:l5 ts x=none:=by
     cases hh:l5 ts x with
     | none=>rfl
     | some l=>rw [hh] at x2; cases x2
    have xch:∀ l∈ch,t8 l≠x:=fun l hl e=>by
     have:=G.a7Q (I.chs.look hl)
     rw [e,xn] at this
     cases this
    have chs':Chs v (ch++[-x]):=by
     refine ⟨?_,fun l hl=>?_⟩
     ·rw [List.map_append,List.nodup_append]
      refine ⟨I.chs.nd,by simp,fun a ha b hb e=>?_⟩
      refine c6 (List.mem_map.mp ha) fun l hl Z1=>?_; subst Z1
      have hb:b=t8 (-x):=by simpa using hb
      refine xch l hl ?_
      rw [e,hb]
      unfold t8
      omega
     ·refine Or.elim (List.mem_append.mp hl) (fun hl=>?_) fun hl=>?_
      ·exact I.chs.ok l hl
      ·rw [List.mem_singleton] at hl
       omega
    have cl':=chs'.len
    rw [List.length_append,List.length_singleton] at cl'
    show ∃ r,v9 v n cs st (ch++[-x])=some r∧_
    refine a3Z hv n cs st (ch++[-x]) ⟨I.stp,I.lit,I.len,chs',fun _ c hc=>?_,I.siz⟩ ?_
    ·apply Classical.byContradiction
     intro hno
     have hno:∀ l∈c,-l∈ch++[-x]:=fun l hl=>Classical.byContradiction fun z=>hno ⟨l,hl,z⟩
     refine g8 (fxc c hc) fun m hm=>?_
     refine f9 (fx _ hm) fun f1 f2=>?_
     have only:∀ y∈y9 ts c,y=x:=fun y hy=>by
      refine f9 (S5.mp hy) fun y1 y2=>?_
      refine Or.elim (List.mem_append.mp (hno y y1)) (fun z=>?_) fun z=>?_
      ·have:=G.a7Q (I.chs.look z)
       rw [a6k] at this
       exact absurd this y2
      ·rw [List.mem_singleton] at z
       omega
     refine Or.elim (a3m (a9j ts c) only) (fun e=>?_) fun e=>?_
     ·exact f1 e
     ·refine f2 x e ?_
      rw [show t8 x=x by unfold t8; omega]
      exact xn
    ·rw [List.length_append,List.length_singleton]
     omega
theorem a7I {v:Nat}{cs0:List (List Int)}(hv:v≤10)(hl:∀ c∈cs0,∀ l∈c,l≠0∧l.natAbs≤v)(hc:∀ c∈cs0,c.length≤100)(hn:cs0.length + 2 ^ v≤500):∃ r,v9 (v:Int) 99999 cs0 [] []=some r∧Res v cs0 r:=by
 have ml:=b8B v cs0
 refine a3Z (by omega) 99999 cs0 [] [] ⟨.nil,hl,hc,⟨List.nodup_nil,fun l h=>(by cases h)⟩,fun h=>absurd rfl h,by omega⟩ ?_
 have:mu v cs0 * (v + 1)≤500 * 11:=Nat.mul_le_mul (by omega) (by omega)
 rw [List.length_nil]
 omega
theorem b6J {p v:Int}(h:0 < v):a7a p v≠0:=by
 unfold a7a
 have h1:=Int.emod_nonneg (p / 2) (b:=v) (by omega)
 have h2:p % 2=0∨p % 2=1:=by omega
 rcases h2 with h2 | h2 <;> rw [h2]
 ·omega
 ·intro h
  omega
theorem b0p {ns:List Int}{b v most:Int}(h:0 < v):∀ l∈a0D ns b v most,l≠0:=by
 intro l hl
 refine c6 (List.mem_map.mp hl) fun k _ Z1=>?_; subst Z1
 exact b6J h
noncomputable def thE (T:Tab)(ts:C2)(h:Int)(X:List Int):k9:=[some (.sh (.dct (v5 T))),some (.ow true (.dct (l7 ts))),some (.sh (.int h)),some (.ow false (.lst (X.map D.int)))]
section
variable {T:Tab}{ts:C2}{h:Int}{c:List Int}
theorem a5l (hT:okT T=true)(hl:I9 T h=some c){r:Option SR}(hr:(p6 (ifS (x9 (g9 Z7 (d8 3) (a0N j5))) (retS (mC (.str a89))) nxS) (p6 (ifS (mOr (x9 (g9 (a08 fun i j=>decide (j < i)) (E3 a1T (c9 (d8 3) j5)) (mC (.int 1)))) (x9 (g9 inD (E3 L1 (c9 (g9 B0 (d8 3) (mC (.int 0))) j5)) (d8 1)))) (retS (mC (.str b6m))) nxS) (p6 (a3v 1 (g9 B0 (d8 3) (mC (.int 0))) (E3 L1 (c9 (g9 B0 (d8 3) (mC (.int 0))) j5))) (retS (mC (.str a7l)))))) (thE T ts h (y9 ts c))=r):F3 (A1 4 [false,true,false] [.dct (v5 T),.dct (l7 ts),.int h])=r:=by
 have n1:=b4A T h
 rw [hl] at n1
 have hc:c.length≤1000:=(a5V hT).2 _ (Z5 hl)
 exact i8 (A7 (A0 (i7 (d7 rfl) (d7 rfl) rfl rfl n1)) rfl P4) (i8 (ρ1:=thE T ts h (y9 ts c)) (r8 (L8 (d9 (d7 rfl) (d9 (i7 (d7 rfl) (d7 rfl) rfl rfl (a6z hl)) j4)) rfl rfl (a5C (ts:=ts) hc) rfl (a5F _)) rfl) hr)
theorem a98 (hT:okT T=true)(hl:I9 T h=some c)(ho:y9 ts c=[]):K4 [.dct (v5 T),.dct (l7 ts),.int h]=some (.ret (.val (.str a89)) [.dct (l7 ts)]):=by
 show z9 F3 4 [false,true,false] _=_
 refine K8 (a5l hT hl (X6 (M9 (A0 (i7 (d7 rfl) (U3 j4 rfl (Nat.le_of_ble_eq_true rfl)) rfl rfl (a6q _))) (by rw [ho]; rfl) (E7 l8 rfl)))) rfl
theorem a95 {l:Int}(hT:okT T=true)(hl:I9 T h=some c)(ho:y9 ts c=[l])(hn:l5 ts (t8 l)=none)(hz:ts.length≤10000):K4 [.dct (v5 T),.dct (l7 ts),.int h]=some (.ret (.val (.str a7l)) [.dct (l7 (ts++[(t8 l,l)]))]):=by
 show z9 F3 4 [false,true,false] _=_
 have it:=b1Y ts (t8 l)
 rw [hn] at it
 rw [← a2f hn]
 have ab:L1 [.int l]=some (.val (.int (t8 l))):=rfl
 have m0:g9 B0 (d8 3) (mC (.int 0)) (thE T ts h [l])=some (.ok (.val (.int l)) (thE T ts h [l])):=i7 (d7 rfl) l8 rfl rfl rfl
 have m1:E3 L1 (c9 (g9 B0 (d8 3) (mC (.int 0))) j5) (thE T ts h [l])=some (.ok (.val (.int (t8 l))) (thE T ts h [l])):=C4 (d9 m0 j4) rfl ab
 refine K8 (sr:=.rt (.val (.str a7l)) (thE T (E4 ts (t8 l) l) h [l])) (a5l hT hl ?_) rfl
 rw [ho]
 exact i8 (A7 (A0 (i7 (d7 rfl) (U3 j4 rfl (Nat.le_of_ble_eq_true rfl)) rfl rfl (a6q [l]))) rfl P4) (i8 (A7 (a8C (A0 (i7 (C4 (d9 (d7 rfl) j4) rfl (a7b [l])) l8 rfl rfl rfl)) rfl (A0 (i7 m1 (d7 rfl) rfl rfl it))) rfl P4) (i8 (a2N m0 rfl m1 rfl rfl (a8t rfl (by omega))) (E7 l8 rfl)))
end
noncomputable def foE (T:Tab)(c hs:List Int)(ts:C2)(k:Nat)(o5:Option C):k9:=[some (.sh (.dct (v5 T))),some (.sh (.tup (c.map D.int))),some (.sh (.tup (hs.map D.int))),some (.ow false (.dct (l7 ts))),some (.sh (.int (k:Int))),o5]
section
variable {T:Tab}{c hs:List Int}
noncomputable abbrev b52:M Bool:=a46 (x9 (g9 (a08 fun i j=>decide (i < j)) (d8 4) (E3 a1T (c9 (d8 2) j5)))) (x9 (g9 (a08 fun i j=>decide (j < i)) (g9 B0 (d8 2) (d8 4)) (mC (.int 0))))
theorem b2g {ts:C2}{k:Nat}{h:Int}{o5:Option C}(hh:hs[k]?=some h)(hp:0 < h):b52 (foE T c hs ts k o5)=some (.ok true (foE T c hs ts k o5))∧g9 B0 (d8 2) (d8 4) (foE T c hs ts k o5)=some (.ok (.val (.int h)) (foE T c hs ts k o5)):=by
 have ln:a1T [.tup (hs.map D.int)]=some (.val (.int (hs.length:Nat))):=by
  show some (W.val (.int _))=_
  rw [List.length_map]
 have lt:a08 (fun i j=>decide (i < j)) (.int (k:Int)) (.int (hs.length:Nat))=some (.val (.bl true)):=by
  show some (W.val (.bl (decide ((k:Int) < _))))=_
  rw [decide_eq_true (Int.ofNat_lt.mpr (List.getElem?_eq_some_iff.mp hh).1)]
 have gt:a08 (fun i j=>decide (j < i)) (.int h) (.int 0)=some (.val (.bl true)):=by
  show some (W.val (.bl (decide (0 < h))))=_
  rw [decide_eq_true hp]
 have ix:B0 (.tup (hs.map D.int)) (.int (k:Int))=some (.val (.int h)):=by
  show (L2.atI (hs.map D.int) (k:Int)).map W.val=_
  rw [a56 (v:=D.int h) (by rw [List.getElem?_map,hh]; rfl)]
  rfl
 have m:g9 B0 (d8 2) (d8 4) (foE T c hs ts k o5)=some (.ok (.val (.int h)) (foE T c hs ts k o5)):=i7 (d7 rfl) (d7 rfl) rfl rfl ix
 exact ⟨a8k (A0 (i7 (d7 rfl) (C4 (d9 (d7 rfl) j4) rfl ln) rfl rfl lt)) (A0 (i7 m l8 rfl rfl gt)),m⟩
theorem b5Y (hT:okT T=true)(hpos:∀ kv∈T,0 < kv.1){t0 ts:C2}{pre:List Int}(g:Pg T t0 ts pre)(hz:t0.length + hs.length≤10000):∀ (rest:List Int) (n:Nat),hs=pre++rest→∃ o5,B4 b52 T3 (n + pre.length) (foE T c hs t0 0 none)=B4 b52 T3 n (foE T c hs ts pre.length o5):=by
 induction g with
 | nil=>exact fun _ n _=>⟨none,rfl⟩
 | @snoc ts pre h l d g hl ho hn ih=>
  intro rest n e
  rw [List.append_assoc] at e
  refine g8 (ih ([h]++rest) (n + 1) e) fun o5 ih=>?_
  refine ⟨some (.sh (.str a7l)),?_⟩
  have hh:hs[pre.length]?=some h:=by rw [e,List.getElem?_append_right (Nat.le_refl _),Nat.sub_self]; rfl
  have hle:=congrArg List.length e
  rw [List.length_append,List.length_append,List.length_singleton] at hle
  have gl:=g.len
  have tk:=a95 hT hl ho hn (by omega)
  refine f9 (b2g (T:=T) (c:=c) (ts:=ts) (o5:=o5) hh (hpos _ (Z5 hl))) fun cd ix=>?_
  rw [List.length_append,List.length_singleton,show n + (pre.length + 1)=n + 1 + pre.length by omega,ih]
  refine a1Z cd (i8 (ρ1:=foE T c hs (ts++[(t8 l,l)]) pre.length (some (.sh (.str a7l)))) (r8 (L8 (d9 (d7 rfl) (d9 (d7 rfl) (d9 ix j4))) rfl rfl tk rfl ?_) rfl) (i8 (A7 (A0 (i7 (d7 rfl) l8 rfl rfl rfl)) rfl P4) (b6C rfl l8 rfl rfl rfl))) rfl
  show (true && (a0d _ && true))=true
  rw [T4]
  rfl
theorem a73 (hT:okT T=true)(hpos:∀ kv∈T,0 < kv.1)(hc:c.length≤1000)(hh:hs.length≤900)(hp:∀ l∈c,0 < l)(h:Pld T c hs):a0B [.dct (v5 T),.tup (c.map D.int),.tup (hs.map D.int)]=some (.ret (.val (.bl true)) []):=by
 show z9 W9 6 [false,false,false] _=_
 refine a3t (h) fun h1 k ts d Z1 g hl ho=>?_; subst Z1
 have fb:=b3C hc hp
 have hc2:K6 (N5 0) N4 (mUn a0U (d8 0)) [none] (c.map D.int)=some ((c.map fun l=>-l).map D.int):=by
  rw [List.map_map]
  exact O0 fun l _=>⟨[some (.sh (.int l))],.val (.int (-l)),[some (.sh (.int l))],[some (.sh (.int l))],rfl,a0Y (d7 rfl) rfl rfl,rfl⟩
 have m2:=O6 (mi:=C9 (d8 1)) (own:=1) (fr:=[]) (ρ:=A1 6 [false,false,false] [.dct (v5 T),.tup (c.map D.int),.tup ((h1++[k]).map D.int)]) (ρ1:=A1 6 [false,false,false] [.dct (v5 T),.tup (c.map D.int),.tup ((h1++[k]).map D.int)]) (M0 (d7 rfl) rfl rfl) (A9 (by rw [List.length_map]; omega)) hc2 (.inl (F4 _))
 have ft:=a5N (ls:=c.map fun l=>-l) (by rw [List.length_map]; exact hc)
 have tl:=a1J (c.map fun l=>-l) []
 rw [List.length_nil,List.length_map,Nat.zero_add] at tl
 have hle:h1.length + 1≤900:=by rw [List.length_append] at hh; exact hh
 refine g8 (b5Y (c:=c) (hs:=h1++[k]) hT hpos g (by show (B8 _).length + _≤_; unfold B8; omega) [k] (999 - h1.length + 1) rfl) fun o5 hw=>?_
 refine f9 (b2g (T:=T) (c:=c) (hs:=h1++[k]) (ts:=ts) (k:=h1.length) (h:=k) (o5:=o5) (by rw [List.getElem?_append_right (Nat.le_refl _),Nat.sub_self]; rfl) (hpos _ (Z5 hl))) fun cd ix=>?_
 have s5:u6 5 (w5 [false,true,false] K4 (c9 (d8 0) (c9 (d8 3) (c9 (g9 B0 (d8 2) (d8 4)) j5)))) (foE T c (h1++[k]) ts h1.length o5)=some (.nx (foE T c (h1++[k]) ts h1.length (some (.sh (.str a89))))):=r8 (L8 (d9 (d7 rfl) (d9 (d7 rfl) (d9 ix j4))) rfl rfl (a98 hT hl ho) rfl (by show (true && (a0d _ && true))=true; rw [T4]; rfl)) rfl
 have b:T3 (foE T c (h1++[k]) ts h1.length o5)=some (.rt (.val (.bl true)) (foE T c (h1++[k]) ts h1.length (some (.sh (.str a89))))):=i8 s5 (X6 (M9 (A0 (i7 (d7 rfl) l8 rfl rfl rfl)) rfl (E7 (i7 (d7 rfl) l8 rfl rfl rfl) rfl)))
 have e:=a3K (n:=999 - h1.length) cd b
 rw [← hw,show 999 - h1.length + 1 + h1.length=1000 by omega] at e
 refine K8 (i8 (A7 (Y5 (G8 (d9 (d7 rfl) j4) rfl rfl fb rfl rfl) rfl rfl) rfl P4) (i8 (r8 (L8 (d9 m2 j4) rfl rfl ft rfl ?_) rfl) (i8 (r8 l8 rfl) (X6 e)))) rfl
 rw [Bool.and_eq_true]
 exact ⟨T4 _,rfl⟩
end
section
variable {ρ ρ1 ρ2 ρ3:k9}{i j:Nat}{f m:Str}{me mv mk mo:M W}{mr:M (List W)}{w wv wk:W}{ws:List W}{d dy:D}{ds:List D}{l:Bool}{fds fds':List (Str×D)}{es es':List (Key×D)}
theorem a8T (h:b0Y i f ρ=some d):a93 i f ρ=some (.ok (.val d) ρ):=by unfold a93; rw [h]; rfl
theorem b7F (h:rdD i f ρ=some d):mRd i f ρ=some (.ok (.val d) ρ):=by unfold mRd; rw [h]; rfl
theorem a9V (h:a2M i j ρ=true):a8l i j ρ=some (.ok (.slot j) ρ):=if_pos h
theorem a1d (ha:me ρ=some (.ok w ρ1))(hl:D3 w ρ1=some (.ok d ρ2))(hp:a4t i f d ρ2=some (.nx ρ3)):a2o i f me ρ=some (.nx ρ3):=by
 unfold a2o
 rw [u5 ha,u5 hl]
 exact hp
theorem b42 {a b:Int}(h0:b0Y i f ρ=some (.int a))(hm:me ρ=some (.ok w ρ1))(hy:getD w ρ1=some (.int b))(hp:a4t i f (.int (a + b)) ρ1=some (.nx ρ2)):a7m i f me ρ=some (.nx ρ2):=by
 unfold a7m
 rw [h0]
 show C3 me _ ρ=_
 rw [u5 hm]
 show (match getD w ρ1 with | some (.int b)=>a4t i f (.int (a + b)) ρ1 | _=>none)=_
 rw [hy]
 exact hp
theorem b4o (ha:me ρ=some (.ok (.own (.dct es)) ρ1))(h0:ρ1[i]?=some (some (.ob l fds)))(hg:j < ρ1.length∧i≠j∧fds.length < 1000∧ρ1[j]?.join.isNone=true)(hs:(ρ1.set i (some (.ob l (a6U N3 .w6 fds)))).set j (some (.ow true (.dct es)))=ρ2):tabS i j me ρ=some (.nx ρ2):=by
 unfold tabS
 rw [u5 ha,← hs]
 show (match W.own (.dct es),ρ1[i]? with | .own (.dct es),some (some (.ob l fds))=>grd (j < ρ1.length∧i≠j∧fds.length < 1000∧ρ1[j]?.join.isNone=true) (some (SR.nx ((ρ1.set i (some (.ob l (a6U N3 .w6 fds)))).set j (some (.ow true (.dct es)))))) | _,_=>none)=_
 rw [h0]
 exact A4 hg
theorem a6G {np:Nat}{fm:List (Str×D)→List (Key×D)→List D→Option MR}(h0:ρ[i]?=some (some (.ob l fds)))(hk:(fds.lookup m).isNone=true)(ha:mr ρ=some (.ok ws ρ1))(hl:U9 ws ρ1=some (.ok ds ρ2))(h1:ρ2[i]?=some (some (.ob l fds)))(h2:ρ2[j]?=some (some (.ow true (.dct es))))(h3:a2M i j ρ2=true)(h4:ds.length + 1=np)(hf:fm fds es ds=some (.ret d fds' es'))(hs:(ρ2.set i (some (.ob l fds'))).set j (some (.ow true (.dct es')))=ρ3):a4b i j m np fm mr ρ=some (.ok (.val d) ρ3):=by
 unfold a4b
 have c:b14 i m ρ=some (.ok () ρ):=by
  unfold b14
  rw [h0]
  exact if_pos hk
 rw [M.j8 (d7 h0),M.j8 c,M.j8 ha,M.j8 hl]
 unfold a8M
 rw [h1,h2]
 dsimp only
 rw [if_pos ⟨h3,h4⟩,hf,← hs]
theorem b3F {c0:C}(hv:mv ρ=some (.ok (.slot i) ρ))(hn:ρ[i]?=some (some c0))(ho:mo ρ=some (.ok w ρ))(hk:mk ρ=some (.ok wk ρ))(hl:D3 (.slot i) ρ=some (.ok d ρ1))(hy:getD wk ρ1=some dy){r:Option SR}(hp:a0X j dy d ρ1=r):b0r mo j mv mk ρ=r:=by
 unfold b0r
 rw [u5 (show O3 mv ρ=some (.ok (.slot i) ρ) by unfold O3; rw [M.j8 hv]; rfl),u5 ho,u5 hk,u5 hl,hy]
 exact hp
theorem b3O {np:Nat}{fm:List D→Option L3.Made}{r:L3.Made}(ha:mr ρ=some (.ok ws ρ1))(hl:U9 ws ρ1=some (.ok ds ρ2))(hf:fm ds=some r)(hg:i < ρ2.length∧j < ρ2.length∧i≠j∧ds.length + 1=np)(hs:(ρ2.set i (some (.ob false r.1))).set j (some (.ow true (.dct r.2)))=ρ3):a68 i j np fm mr ρ=some (.nx ρ3):=by
 unfold a68
 rw [u5 ha,u5 hl,← hs,hf]
 exact A4 hg
theorem b4s {den:SM}{n:Nat}{sr:SR}{r:L3.Made}(h:den (U0 n [] ds)=some sr)(ho:outI j sr=some r):a7g den n j ds=some r:=by unfold a7g; rw [h]; exact ho
theorem a5Z {den:SM}{n:Nat}{sr:SR}{r:MR}(h:den (startM n j fds es ds)=some sr)(ho:b6h j sr=some r):runM den n j fds es ds=some r:=by unfold runM; rw [h]; exact ho
end
noncomputable def keF (v g t:Int)(b:Bool):List (Str×D):=[("variables",.int v),("table",.w6),("greatest",.int g),("taken",.int t),("refuted",.bl b)]
theorem b3j (T:Tab):(a5y (.own (.dct (v5 T))) && ([]:List D).all a0d)=true:=by
 show ((v5 T).all (fun e=>Q6 e.2) && true)=true
 rw [Bool.and_true]
 unfold v5
 rw [List.all_map,List.all_eq_true]
 exact fun kv _=>T6 kv.2
theorem b4h {v:Int}{cs:List (List Int)}(h:cs.length≤1000):B6 [.int v,.lst (J2 cs)]=some (keF v cs.length 0 false,v5 (v7 1 cs)):=by
 show a7g D7 4 3 _=_
 have ln:a1T [.lst (J2 cs)]=some (.val (.int (cs.length:Nat))):=by
  show some (W.val (.int _))=_
  rw [a4n]
 exact b4s (i8 (a1d (d7 rfl) rfl rfl) (i8 (b4o (L8 (d9 (d7 rfl) j4) rfl rfl (a28 h) rfl (b3j _)) rfl ⟨Nat.le_of_ble_eq_true rfl,by decide,Nat.le_of_ble_eq_true rfl,rfl⟩ rfl) (i8 (a1d (C4 (d9 (d7 rfl) j4) rfl ln) rfl rfl) (i8 (a1d l8 rfl rfl) (a1d l8 rfl rfl))))) rfl
noncomputable def kpE (v g t:Int)(b:Bool)(T:Tab)(n:Int)(c hs:List Int):k9:=[some (.ob true (keF v g t b)),some (.sh (.int n)),some (.sh (.tup (c.map D.int))),some (.sh (.tup (hs.map D.int))),some (.ow true (.dct (v5 T)))]
section
variable {v t:Int}{cs:List (List Int)}{c hs:List Int}
structure Rgt (v:Int) (cs:List (List Int)) (c hs:List Int):Prop where
 tab:okT (v7 1 cs)=true
 len:cs.length≤1000
 cl:c.length≤1000
 hl:hs.length≤900
 lit:∀ l∈c,0 < l∧l≤v
 go:Pld (v7 1 cs) c hs
theorem b1j (R:Rgt v cs c hs):E9 (keF v cs.length t false) (v5 (v7 1 cs)) [.int ((cs.length + 1:Nat):Int),.tup (c.map D.int),.tup (hs.map D.int)]=some (.ret (.bl true) (keF v cs.length t false) (v5 (v7 1 cs))):=by
 show runM D6 5 4 _ _ _=_
 have le:a08 (fun i j=>decide (i≤j)) (.int ((cs.length + 1:Nat):Int)) (.int (cs.length:Nat))=some (.val (.bl false)):=by
  show some (W.val (.bl (decide _)))=_
  rw [decide_eq_false (by omega)]
 have hc:K6 (N5 0) N4 (g9 (a08 fun i j=>decide (j < i)) (E3 L1 (c9 (d8 0) j5)) (mRd 1 "variables")) [none,some (.rd (keF v cs.length t false))] (c.map D.int)=some ((c.map fun l=>decide (v < t8 l)).map D.bl):=by
  rw [List.map_map]
  exact O0 fun l _=>⟨[some (.sh (.int l)),some (.rd (keF v cs.length t false))],.val (.bl (decide (v < t8 l))),[some (.sh (.int l)),some (.rd (keF v cs.length t false))],[some (.sh (.int l)),some (.rd (keF v cs.length t false))],rfl,i7 (C4 (d9 (d7 rfl) j4) rfl rfl) (b7F rfl) rfl rfl rfl,rfl⟩
 have m:=O6 (mi:=C9 (d8 2)) (own:=1) (fr:=[0]) (ρ:=kpE v cs.length t false (v7 1 cs) ((cs.length + 1:Nat):Int) c hs) (ρ1:=kpE v cs.length t false (v7 1 cs) ((cs.length + 1:Nat):Int) c hs) (M0 (d7 rfl) rfl rfl) (A9 (by rw [List.length_map]; have:=R.cl; omega)) hc (.inl (a70 _))
 have an:=a9x (c.map fun l=>decide (v < t8 l))
 rw [List.any_map,show (c.any (id ∘ fun l=>decide (v < t8 l)))=false from List.any_eq_false.mpr fun l hl=>by
  have:=R.lit l hl
  have e:¬ v < t8 l:=by unfold t8; omega
  show ¬ decide (v < t8 l)=true
  rw [decide_eq_false e]
  exact Bool.false_ne_true] at an
 have ff:=a73 R.tab (fun kv hm=>by have:=(Q9 cs 1 kv hm).1; omega) R.cl R.hl (fun l hl=>(R.lit l hl).1) R.go
 exact a5Z (i8 (A7 (a8C (A0 (i7 (d7 rfl) (a8T rfl) rfl rfl le)) rfl (Y5 (C4 (d9 m j4) rfl an) rfl rfl)) rfl P4) (E7 (L8 (d9 (a9V rfl) (d9 (d7 rfl) (d9 (d7 rfl) j4))) rfl rfl ff rfl rfl) rfl)) rfl
theorem b4z {i:Nat}{l:Bool}{ρ:k9}(hz:cs.length≤1000)(h:ρ[i]?=some (some (.ow l (.dct (v5 (v7 1 cs)))))):a0X i (.int ((cs.length + 1:Nat):Int)) (.tup (c.map D.int)) ρ=some (.nx (ρ.set i (some (.ow l (.dct (v5 (v7 1 (cs++[c])))))))):=by
 have ep:putD (v5 (v7 1 cs)) (.inl ((cs.length + 1:Nat):Int)) (.tup (c.map D.int))=v5 (v7 1 (cs++[c])):=by
  rw [a2B,a6b (fun kv hm e=>by have:=(Q9 cs 1 kv hm).2.1; omega)]
  rw [show ((cs.length + 1:Nat):Int)=1 + (cs.length:Int) by omega]
 unfold a0X
 rw [h]
 show grd (small (v5 (v7 1 cs)).length) (some (SR.nx (ρ.set i (some (.ow l (.dct (putD (v5 (v7 1 cs)) (.inl ((cs.length + 1:Nat):Int)) (.tup (c.map D.int)))))))))=_
 rw [ep]
 exact A4 (by show _≤1000000; rw [show (v5 (v7 1 cs)).length=(v7 1 cs).length from List.length_map _,a00]; omega)
theorem b6f (R:Rgt v cs c hs):C5 (keF v cs.length t false) (v5 (v7 1 cs)) [.int ((cs.length + 1:Nat):Int),.tup (c.map D.int),.tup (hs.map D.int)]=some (.ret .w6 (keF v ((cs.length + 1:Nat):Int) t c.isEmpty) (v5 (v7 1 (cs++[c])))):=by
 show runM B9 5 4 _ _ _=_
 exact a5Z (i8 (ρ1:=kpE v cs.length t false (v7 1 cs) ((cs.length + 1:Nat):Int) c hs) (A7 (b1l (Y5 (a6G rfl rfl (d9 (d7 rfl) (d9 (d7 rfl) (d9 (d7 rfl) j4))) rfl rfl rfl rfl rfl (b1j R) rfl) rfl (k:=true) rfl)) rfl P4) (i8 (ρ1:=kpE v cs.length t false (v7 1 (cs++[c])) ((cs.length + 1:Nat):Int) c hs) (b3F (d7 rfl) rfl (a9V rfl) (d7 rfl) rfl rfl (b4z R.len rfl)) (i8 (a1d (d7 rfl) rfl rfl) (a1d (i7 (d7 rfl) (O7 j4 rfl (Nat.le_of_ble_eq_true rfl)) rfl rfl (a9D c)) rfl rfl)))) rfl
theorem b4e (R:Rgt v cs c hs):O2 (keF v cs.length t false) (v5 (v7 1 cs)) [L4 (((cs.length + 1:Nat):Int),c,hs)]=some (.ret .w6 (keF v ((cs.length + 1:Nat):Int) (t + 1) c.isEmpty) (v5 (v7 1 (cs++[c])))):=by
 show runM M5 3 2 _ _ _=_
 exact a5Z (i8 (M9 (b1l (Y5 (a8T rfl) rfl (k:=false) rfl)) rfl (A7 (A0 (i7 (i7 (d7 rfl) l8 rfl rfl rfl) l8 rfl rfl rfl)) rfl (a3O (a6G rfl rfl (d9 (i7 (d7 rfl) l8 rfl rfl rfl) (d9 (i7 (d7 rfl) l8 rfl rfl rfl) (d9 (i7 (d7 rfl) l8 rfl rfl rfl) j4))) rfl rfl rfl rfl rfl (b6f R) rfl)))) (b42 rfl l8 rfl rfl)) rfl
end
noncomputable def ckE (v:Int)(cs0:List (List Int))(st0:List Stp)(cs:List (List Int))(t:Int)(b:Bool)(o4:Option C):k9:=[some (.sh (.int v)),some (.sh (.lst (J2 cs0))),some (.sh (.lst (st0.map L4))),some (.ob false (keF v cs.length t b)),o4,some (.ow true (.dct (v5 (v7 1 cs))))]
section
variable {v:Nat}{cs0:List (List Int)}{st0:List Stp}
theorem a9P {cs:List (List Int)}{c hs:List Int}{t:Int}(R:Rgt (v:Int) cs c hs):S6 (ckE v cs0 st0 cs t false (some (.sh (L4 (((cs.length + 1:Nat):Int),c,hs)))))=some (.nx (ckE v cs0 st0 (cs++[c]) (t + 1) c.isEmpty (some (.sh (L4 (((cs.length + 1:Nat):Int),c,hs)))))):=by
 unfold ckE
 rw [List.length_append,List.length_singleton]
 exact a3O (a6G rfl rfl (d9 (d7 rfl) j4) rfl rfl rfl rfl rfl (b4e R) rfl)
theorem b2U {cs:List (List Int)}{c hs:List Int}(h1:cs.length≤500)(h2:∀ d∈cs,d.length≤100)(h3:c.length≤100)(h4:hs.length≤30)(h5:∀ l∈c,0 < l∧l≤(v:Int))(h6:Pld (v7 1 cs) c hs):Rgt (v:Int) cs c hs:=⟨a9a (by omega) h2,by omega,by omega,by omega,h5,h6⟩
theorem b4J {cs:List (List Int)}{st:List Stp}(S:a4W v cs0 cs st):cs.length≤500→(∀ c∈cs,c.length≤100)→∀ rest:List D,∃ o4,forL (N5 4) S6 (st.map L4++rest) (ckE v cs0 st0 cs0 0 false none)=forL (N5 4) S6 rest (ckE v cs0 st0 cs (st.length:Int) false o4):=by
 induction S with
 | nil=>exact fun _ _ _=>⟨none,rfl⟩
 | @snoc cs st c hs S hne hl go hc ih=>
  intro h1 h2 rest
  rw [List.length_append,List.length_singleton] at h1
  refine g8 (ih (by omega) (fun d hd=>h2 d (List.mem_append_left _ hd)) (L4 (((cs.length + 1:Nat):Int),c,hs)::rest)) fun o4 e=>?_
  have R:=b2U (v:=v) (by omega) (fun d hd=>h2 d (List.mem_append_left _ hd)) (h2 c (List.mem_append_right _ List.mem_cons_self)) hl hc go
  have s:=a9P (cs0:=cs0) (st0:=st0) (t:=(st.length:Int)) R
  rw [show c.isEmpty=false by cases c with | nil=>exact absurd rfl hne | cons _ _=>rfl] at s
  refine ⟨some (.sh (L4 (((cs.length + 1:Nat):Int),c,hs))),?_⟩
  rw [List.map_append,List.append_assoc,List.length_append,List.length_singleton]
  exact e.trans (U7 rfl s rfl)
theorem a8e {cs:List (List Int)}{st:List Stp}{hs:List Int}(S:a4W v cs0 cs st)(h1:cs.length≤500)(h2:∀ c∈cs,c.length≤100)(h3:hs.length≤30)(go:Pld (v7 1 cs) [] hs):V6 [.int (v:Int),.lst (J2 cs0),.lst ((st++[(((cs.length + 1:Nat):Int),[],hs)]).map L4)]=some (.ret (.val (.bl true)) []):=by
 show z9 W6 6 [false,false,false] _=_
 have sl:=S.len
 refine g8 (b4J (st0:=st++[(((cs.length + 1:Nat):Int),[],hs)]) S h1 h2 [L4 (((cs.length + 1:Nat):Int),[],hs)]) fun o4 e=>?_
 have R:=b2U (v:=v) (c:=[]) (by omega) h2 (Nat.zero_le _) h3 (fun _ z=>nomatch z) go
 have s:=a9P (cs0:=cs0) (st0:=st++[(((cs.length + 1:Nat):Int),[],hs)]) (t:=(st.length:Int)) R
 have e:=e.trans (U7 rfl s b4O)
 rw [show st.map L4++[L4 (((cs.length + 1:Nat):Int),[],hs)]=(st++[(((cs.length + 1:Nat):Int),[],hs)]).map L4 by rw [List.map_append]; rfl] at e
 have mk:a68 3 5 3 B6 (c9 (d8 0) (c9 (d8 1) j5)) (A1 6 [false,false,false] [.int (v:Int),.lst (J2 cs0),.lst ((st++[(((cs.length + 1:Nat):Int),[],hs)]).map L4)])=some (.nx (ckE v cs0 (st++[(((cs.length + 1:Nat):Int),[],hs)]) cs0 0 false none)):=b3O (d9 (d7 rfl) (d9 (d7 rfl) j4)) rfl (b4h (by omega)) ⟨Nat.lt_of_sub_eq_succ rfl,Nat.lt_of_sub_eq_succ rfl,by decide,rfl⟩ rfl
 exact K8 (i8 mk (i8 (a2S (M0 (d7 rfl) rfl rfl) e) (E7 (a8T rfl) rfl))) rfl
end
noncomputable def plV (t p:Nat):List (List Int):=((List.range t).map fun i=>(List.range p).map fun a=>((p * i + a + 1:Nat):Int))++(List.range p).flatMap fun a=>(List.range t).flatMap fun i=>(List.range i).map fun o=>[-((p * i + a + 1:Nat):Int),-((p * o + a + 1:Nat):Int)]
noncomputable def gdF (v:Nat)(fs:List (List Int)):Bool:=decide (v≤8∧fs.length≤30) && fs.all fun c=>decide (c.length≤100) && c.all fun l=>decide (l≠0∧l.natAbs≤v)
noncomputable def plB (x:Nat×Nat)(b:Bool):Bool:=gdF (x.1 * x.2) (plV x.1 x.2) && decide ((v9 ((x.1 * x.2:Nat):Int) 99999 (plV x.1 x.2) [] []).map (fun r=>r.1.isNone)=some b)
theorem b5a:(∀ x∈[(3,2),(2,1),(4,2)],plB x true=true)∧∀ x∈[(2,2),(1,1),(2,3)],plB x false=true:=by decide +kernel
theorem b8E:u7 [.int 3,.int 2]=some (.ret (.val (.tup [.int 6,.lst (J2 (plV 3 2))])) []):=by kernel_rfl
theorem b7M:u7 [.int 2,.int 1]=some (.ret (.val (.tup [.int 2,.lst (J2 (plV 2 1))])) []):=by kernel_rfl
theorem b7W:u7 [.int 4,.int 2]=some (.ret (.val (.tup [.int 8,.lst (J2 (plV 4 2))])) []):=by kernel_rfl
theorem b8n:u7 [.int 2,.int 2]=some (.ret (.val (.tup [.int 4,.lst (J2 (plV 2 2))])) []):=by kernel_rfl
theorem b8G:u7 [.int 1,.int 1]=some (.ret (.val (.tup [.int 1,.lst (J2 (plV 1 1))])) []):=by kernel_rfl
theorem b7A:u7 [.int 2,.int 3]=some (.ret (.val (.tup [.int 6,.lst (J2 (plV 2 3))])) []):=by kernel_rfl
noncomputable def loE (ns:List Int)(w:Int)(due:D)(o3:Option C)(v:Int)(fs:List (List Int))(o5 o6 o7 o8:Option C):k9:=[some (.sh (.lst (ns.map D.int))),some (.sh (.int w)),some (.sh due),o3,some (.sh (.tup [.int v,.lst (J2 fs)])),o5,o6,o7,o8]
theorem b2b (v:Nat){f:Nat→Int}(hf:∀ k,k < v→f k=(k:Int) + 1∨f k=-((k:Int) + 1)):((List.range v).map f).map t8=(List.range v).map fun k=>(1:Int) + ((k:Nat):Int):=by
 rw [List.map_map]
 refine List.map_congr_left fun k hk=>?_
 have:=hf k (List.mem_range.mp hk)
 show t8 (f k)=_
 unfold t8
 omega
theorem b30 (v:Nat)(h:v < 64):a2p [.lst (((List.range v).map fun k=>(1:Int) + ((k:Nat):Int)).map D.int)]=some (.own (.lst (((List.range v).map fun k=>(1:Int) + ((k:Nat):Int)).map D.int))):=by
 show (intsOf _).bind _=_
 rw [a8s]
 show grd _ _=_
 rw [← a7r (List.Perm.refl _) (List.pairwise_map.mpr (List.pairwise_lt_range.imp fun h=>by omega))]
 exact A4 (by rw [List.length_map,List.length_range]; exact h)
theorem b2K {v:Nat}(h:v≤8):a1b [.int 1,.int ((v:Int) + 1)]=some (.own (.lst (((List.range v).map fun k=>(1:Int) + ((k:Nat):Int)).map D.int))):=by
 rw [List.map_map]
 show grd _ (some (W.own (.lst ((List.range ((v:Int) + 1 - 1).toNat).map _))))=_
 rw [show ((v:Int) + 1 - 1).toNat=v by omega]
 exact A4 ⟨by decide,by decide,by omega,by omega,by omega⟩
theorem b3T (a:List Int):a69 (.lst (a.map D.int)) (.lst (a.map D.int))=some (.val (.bl false)):=by
 show (eqL (eqD 7) _ _).bind _=_
 rw [a5B,decide_eq_true rfl]
 rfl
theorem b4B (o:D)(M:List Int)(fs:List (List Int))(hl:∀ c∈fs,c.length≤100)(hs:∀ c∈fs,∃ l∈c,l∈M):K6 (N5 0) N4 (E3 a8j (c9 (D9 (C9 (d8 0)) (N5 0) N4 (g9 inD (d8 0) (g9 B0 (d8 1) (mC (.int 0)))) 1 [1]) j5)) [none,some (.sh (.tup [.tup (M.map D.int),o]))] (J2 fs)=some (fs.map fun _=>D.bl true):=by
 refine O0 fun c hc=>?_
 have hi:K6 (N5 0) N4 (g9 inD (d8 0) (g9 B0 (d8 1) (mC (.int 0)))) [none,some (.sh (.tup [.tup (M.map D.int),o]))] (c.map D.int)=some ((c.map fun l=>decide (l∈M)).map D.bl):=by
  rw [List.map_map]
  exact O0 fun l _=>⟨[some (.sh (.int l)),some (.sh (.tup [.tup (M.map D.int),o]))],.val (.bl (decide (l∈M))),[some (.sh (.int l)),some (.sh (.tup [.tup (M.map D.int),o]))],[some (.sh (.int l)),some (.sh (.tup [.tup (M.map D.int),o]))],rfl,i7 (d7 rfl) (i7 (d7 rfl) l8 rfl rfl rfl) rfl rfl (b59 l M),rfl⟩
 have m1:=O6 (mi:=C9 (d8 0)) (own:=1) (fr:=[1]) (ρ:=[some (.sh (.tup (c.map D.int))),some (.sh (.tup [.tup (M.map D.int),o]))]) (ρ1:=[some (.sh (.tup (c.map D.int))),some (.sh (.tup [.tup (M.map D.int),o]))]) (M0 (d7 rfl) rfl rfl) (A9 (by rw [List.length_map]; have:=hl c hc; omega)) hi (.inl (a70 _))
 have an:=a9x (c.map fun l=>decide (l∈M))
 refine c6 (hs c hc) fun l l1 l2=>?_
 rw [List.any_map,show (c.any (id ∘ fun l=>decide (l∈M)))=true from List.any_eq_true.mpr ⟨l,l1,decide_eq_true l2⟩] at an
 exact ⟨[some (.sh (.tup (c.map D.int))),some (.sh (.tup [.tup (M.map D.int),o]))],.val (.bl true),[some (.sh (.tup (c.map D.int))),some (.sh (.tup [.tup (M.map D.int),o]))],[some (.sh (.tup (c.map D.int))),some (.sh (.tup [.tup (M.map D.int),o]))],rfl,C4 (d9 m1 j4) rfl an,rfl⟩
noncomputable abbrev b9s:SM:=(p6 (u6 7 (w5 [false,false] T8 (c9 (g9 B0 (d8 4) (mC (.int 0))) (c9 (E3 a1u (c9 (g9 B0 (d8 4) (mC (.int 1))) j5)) j5))))
 (p6 (ifS (x9 (mUn (fun d=>vB (X7 d)) (g9 B0 (d8 7) (mC (.int 0))))) (retS (a5q (g9 a7P (d8 2) (mC (.bl true))) (g9 isD (w5 [false,false,false] V6 (c9 (g9 B0 (d8 4) (mC (.int 0))) (c9 (g9 B0 (d8 4) (mC (.int 1))) (c9 (g9 B0 (d8 7) (mC (.int 1))) j5)))) (mC (.bl true))))) nxS)
 (p6 (u6 8 (D9 (C9 (g9 B0 (d8 7) (mC (.int 0)))) (N5 0) N4 (E3 L1 (c9 (d8 0) j5)) 1 []))
 (p6 (ifS (mOr (x9 (g9 isD (d8 2) (mC (.bl false)))) (x9 (g9 a69 (E3 a2p (c9 (d8 8) j5)) (E3 a1b (c9 (mC (.int 1)) (c9 (g9 O8 (g9 B0 (d8 4) (mC (.int 0))) (mC (.int 1))) j5)))))) (retS (mC (.bl false))) nxS)
 (retS (E3 b0P (c9 (D9 (C9 (g9 B0 (d8 4) (mC (.int 1)))) (N5 0) N4 (E3 a8j (c9 (D9 (C9 (d8 0)) (N5 0) N4 (g9 inD (d8 0) (g9 B0 (d8 1) (mC (.int 0)))) 1 [1]) j5)) 1 [7]) j5)))))))
theorem a6a (ns:List Int)(w:Int)(due:D)(o3 o5 o6:Option C){v:Nat}{fs:List (List Int)}(g:gdF v fs=true)(hd:due=.w6∨∃ b,due=.bl b∧(v9 (v:Int) 99999 fs [] []).map (fun r=>r.1.isNone)=some (!b)):∃ a ρ,b9s (loE ns w due o3 v fs o5 o6 none none)=some (.rt (.val (.bl true)) (a::ρ)):=by
 unfold gdF at g
 simp only [Bool.and_eq_true,decide_eq_true_eq,List.all_eq_true] at g
 refine f9 (g) fun Z1 g3=>?_; refine f9 (Z1) fun g1 g2=>?_
 have hp:2 ^ v≤256:=Nat.pow_le_pow_right (n:=2) (by omega) g1
 refine c6 (a7I (v:=v) (cs0:=fs) (by omega) (fun c hc=>(g3 c hc).2) (fun c hc=>(g3 c hc).1) (by omega)) fun r hS R=>?_
 have fS:=b0x (v:=(v:Int)) (by omega) (by omega) hS
 rw [hS] at hd
 have i0:B0 (.tup [.int (v:Int),.lst (J2 fs)]) (.int 0)=some (.val (.int (v:Int))):=rfl
 have i1:B0 (.tup [.int (v:Int),.lst (J2 fs)]) (.int 1)=some (.val (.lst (J2 fs))):=rfl
 have s7:u6 7 (w5 [false,false] T8 (c9 (g9 B0 (d8 4) (mC (.int 0))) (c9 (E3 a1u (c9 (g9 B0 (d8 4) (mC (.int 1))) j5)) j5))) (loE ns w due o3 v fs o5 o6 none none)=some (.nx (loE ns w due o3 v fs o5 o6 (some (.sh (.tup [b6a r.1,.lst (r.2.map L4)]))) none)):=r8 (G8 (d9 (i7 (d7 rfl) l8 rfl rfl i0) (d9 (C4 (d9 (i7 (d7 rfl) l8 rfl rfl i1) j4) rfl rfl) j4)) rfl rfl fS rfl rfl) rfl
 cases R with
 | @none cs st hs S c1 c2 c3 go=>
  have fc:=a8e S c1 c2 c3 go
  have dn:a7P due (.bl true)=some (.val (.bl true)):=by
   rcases hd with rfl | ⟨b,rfl,e⟩
   ·rfl
   ·cases b with
    | true=>cases e
    | false=>rfl
  exact ⟨_,_,i8 s7 (X6 (M9 (A0 (a0Y (i7 (d7 rfl) l8 rfl rfl rfl) rfl rfl)) rfl (E7 (b3s (k:=true) (i7 (d7 rfl) l8 rfl rfl dn) rfl rfl (i7 (G8 (d9 (i7 (d7 rfl) l8 rfl rfl i0) (d9 (i7 (d7 rfl) l8 rfl rfl i1) (d9 (i7 (d7 rfl) l8 rfl rfl rfl) j4))) rfl rfl fc rfl rfl) l8 rfl rfl rfl)) rfl)))⟩
 | @model f hf hs=>
  have dn:isD due (.bl false)=some (.val (.bl false)):=by
   rcases hd with rfl | ⟨b,rfl,e⟩
   ·rfl
   ·cases b with
    | true=>rfl
    | false=>cases e
  have nu:=b2b v hf
  generalize (List.range v).map f=M at *
  have hc8:K6 (N5 0) N4 (E3 L1 (c9 (d8 0) j5)) [none] (M.map D.int)=some ((M.map t8).map D.int):=by
   rw [List.map_map]
   exact O0 fun l _=>⟨[some (.sh (.int l))],.val (.int (t8 l)),[some (.sh (.int l))],[some (.sh (.int l))],rfl,C4 (d9 (d7 rfl) j4) rfl rfl,rfl⟩
  have Ml:M.length=v:=by have:=congrArg List.length nu; rw [List.length_map,List.length_map,List.length_range] at this; exact this
  have m8:=O6 (mi:=C9 (g9 B0 (d8 7) (mC (.int 0)))) (own:=1) (fr:=[]) (ρ:=loE ns w due o3 v fs o5 o6 (some (.sh (.tup [.tup (M.map D.int),.lst []]))) none) (ρ1:=loE ns w due o3 v fs o5 o6 (some (.sh (.tup [.tup (M.map D.int),.lst []]))) none) (M0 (i7 (d7 rfl) l8 rfl rfl rfl) rfl rfl) (A9 (by rw [List.length_map]; omega)) hc8 (.inl (F4 _))
  rw [nu] at m8
  have m9:=O6 (mi:=C9 (g9 B0 (d8 4) (mC (.int 1)))) (own:=1) (fr:=[7]) (ρ:=loE ns w due o3 v fs o5 o6 (some (.sh (.tup [.tup (M.map D.int),.lst []]))) (some (.ow false (.lst (((List.range v).map fun k=>(1:Int) + ((k:Nat):Int)).map D.int))))) (ρ1:=loE ns w due o3 v fs o5 o6 (some (.sh (.tup [.tup (M.map D.int),.lst []]))) (some (.ow false (.lst (((List.range v).map fun k=>(1:Int) + ((k:Nat):Int)).map D.int))))) (M0 (i7 (d7 rfl) l8 rfl rfl i1) rfl rfl) (A9 (by rw [a4n]; omega)) (b4B (.lst []) M fs (fun c hc=>(g3 c hc).1) hs) (.inl (by rw [List.all_map,List.all_eq_true]; exact fun _ _=>rfl))
  have al:b0P [.lst (fs.map fun _=>D.bl true)]=some (.val (.bl true)):=by
   have:=b4a (fs.map fun _=>true)
   rw [List.map_map,List.all_map,show (fs.all (id ∘ fun _=>true))=true from List.all_eq_true.mpr fun _ _=>rfl] at this
   exact this
  exact ⟨_,_,i8 s7 (i8 (A7 (A0 (a0Y (i7 (d7 rfl) l8 rfl rfl rfl) rfl rfl)) rfl P4) (i8 (r8 m8 rfl) (i8 (A7 (a8C (A0 (i7 (d7 rfl) l8 rfl rfl dn)) rfl (A0 (i7 (C4 (d9 (d7 rfl) j4) rfl (b30 v (by omega))) (C4 (d9 l8 (d9 (i7 (i7 (d7 rfl) l8 rfl rfl i0) l8 rfl rfl rfl) j4)) rfl (b2K g1)) rfl rfl (b3T _)))) rfl P4) (E7 (C4 (d9 m9 j4) rfl al) rfl))))⟩
theorem b5d (x:Nat×Nat)(b:Bool)(h:plB x b=true):gdF (x.1 * x.2) (plV x.1 x.2)=true∧(v9 ((x.1 * x.2:Nat):Int) 99999 (plV x.1 x.2) [] []).map (fun r=>r.1.isNone)=some b:=by
 unfold plB at h
 rw [Bool.and_eq_true] at h
 exact ⟨h.1,of_decide_eq_true h.2⟩
noncomputable def pD (x:Nat×Nat):D:=.tup [.int (x.1:Int),.int (x.2:Int)]
theorem b0C {x:Nat×Nat}(h:x∈[(3,2),(2,1),(4,2)]∨x∈[(2,2),(1,1),(2,3)]):u7 [.int (x.1:Int),.int (x.2:Int)]=some (.ret (.val (.tup [.int ((x.1 * x.2:Nat):Int),.lst (J2 (plV x.1 x.2))])) []):=by
 simp only [List.mem_cons,List.not_mem_nil,or_false] at h
 rcases h with (rfl | rfl | rfl) | rfl | rfl | rfl
 ·exact b8E
 ·exact b7M
 ·exact b7W
 ·exact b8n
 ·exact b8G
 ·exact b7A
theorem b61 {p v:Int}(hv:0 < v):(a7a p v).natAbs≤v.toNat:=by
 unfold a7a
 have h1:=Int.emod_nonneg (p / 2) (b:=v) (by omega)
 have h2:=Int.emod_lt_of_pos (p / 2) (b:=v) hv
 have h3:p % 2=0∨p % 2=1:=by omega
 generalize p / 2 % v=a at *
 rcases h3 with h3 | h3 <;> rw [h3] <;> omega
theorem b5X (ns:List Int){v:Nat}{m:Int}(h1:0 < v)(h2:v≤8)(h3:m≤20):gdF v ((List.range m.toNat).map fun (k:Nat)=>a0D ns (3 + 5 * (0 + (k:Int))) (v:Int) 3)=true:=by
 unfold gdF
 rw [Bool.and_eq_true,List.all_eq_true]
 refine ⟨decide_eq_true ⟨h2,by rw [List.length_map,List.length_range]; omega⟩,fun c hc=>?_⟩
 refine c6 (List.mem_map.mp hc) fun k _ Z1=>?_; subst Z1
 rw [Bool.and_eq_true,List.all_eq_true]
 refine ⟨decide_eq_true ?_,fun l hl=>decide_eq_true ⟨b0p (by omega) l hl,?_⟩⟩
 ·unfold a0D
  rw [List.length_map,List.length_range]
  have:=a9q (A8 ns (3 + 5 * (0 + (k:Int)))) 3 (by decide)
  omega
 ·refine c6 (List.mem_map.mp hl) fun q _ Z1=>?_; subst Z1
  exact b61 (v:=(v:Int)) (by omega)
noncomputable def wyE (ns:List Int)(w:Int)(o3 o5 o6:Option C):k9:=[some (.sh (.lst (ns.map D.int))),some (.sh (.int w)),some (.sh .w6),o3,none,o5,o6,none,none]
theorem b2p:∀ ns:List Int,ns.length≤63→z9 a88 9 [false] [.lst (ns.map D.int)]=some (.ret (.val (.bl true)) []):=by
 intro ns _
 have s1:u6 1 (g9 a0e (w5 [false,false] z6 (c9 (d8 0) (c9 (mC (.int 0)) j5))) (mC (.int 4))) (A1 9 [false] [.lst (ns.map D.int)])=some (.nx [some (.sh (.lst (ns.map D.int))),some (.sh (.int (A8 ns 0 % 4))),none,none,none,none,none,none,none]):=r8 (i7 (G8 (d9 (d7 rfl) (d9 l8 j4)) rfl rfl a2C rfl rfl) l8 rfl rfl (M3 (by decide))) rfl
 have s2:u6 2 (mC .w6) [some (.sh (.lst (ns.map D.int))),some (.sh (.int (A8 ns 0 % 4))),none,none,none,none,none,none,none]=some (.nx (wyE ns (A8 ns 0 % 4) none none none)):=r8 l8 rfl
 have t0:x9 (g9 Z7 (d8 1) (mC (.int 0))) (wyE ns (A8 ns 0 % 4) none none none)=some (.ok (decide (A8 ns 0 % 4=0)) (wyE ns (A8 ns 0 % 4) none none none)):=A0 (i7 (d7 rfl) l8 rfl rfl (eq_int _ _))
 have t1:x9 (g9 Z7 (d8 1) (mC (.int 1))) (wyE ns (A8 ns 0 % 4) none none none)=some (.ok (decide (A8 ns 0 % 4=1)) (wyE ns (A8 ns 0 % 4) none none none)):=A0 (i7 (d7 rfl) l8 rfl rfl (eq_int _ _))
 have k1:g9 a0e (w5 [false,false] z6 (c9 (d8 0) (c9 (mC (.int 1)) j5))) (mC (.int 3)) (wyE ns (A8 ns 0 % 4) none none none)=some (.ok (.val (.int (A8 ns 1 % 3))) (wyE ns (A8 ns 0 % 4) none none none)):=i7 (G8 (d9 (d7 rfl) (d9 l8 j4)) rfl rfl a2C rfl rfl) l8 rfl rfl (M3 (by decide))
 have p4:∀ {x:Nat×Nat},(x∈[(3,2),(2,1),(4,2)]∨x∈[(2,2),(1,1),(2,3)])→u6 4 (w5 [false,false] u7 (c9 (g9 B0 (d8 3) (mC (.int 0))) (c9 (g9 B0 (d8 3) (mC (.int 1))) j5))) (wyE ns (A8 ns 0 % 4) (some (.sh (pD x))) none none)=some (.nx (loE ns (A8 ns 0 % 4) .w6 (some (.sh (pD x))) ((x.1 * x.2:Nat):Int) (plV x.1 x.2) none none none none)):=fun {x} hx=>r8 (G8 (d9 (i7 (d7 rfl) l8 rfl rfl rfl) (d9 (i7 (d7 rfl) l8 rfl rfl rfl) j4)) rfl rfl (b0C hx) rfl rfl) rfl
 by_cases h0:A8 ns 0 % 4=0
 ·refine c6 (a9p (f:=pD) (xs:=[(3,2),(2,1),(4,2)]) (n:=3) rfl (List.cons_ne_nil _ _) (A8 ns 1)) fun x hx hi=>?_
  refine f9 (b5d x true (b5a.1 x hx)) fun g e=>?_
  refine A6 (a6a ns (A8 ns 0 % 4) (.bl false) (some (.sh (pD x))) none none g (.inr ⟨false,rfl,e⟩)) fun a ρ hL=>?_
  exact K8 (i8 s1 (i8 s2 (i8 (M9 t0 (decide_eq_true h0) (i8 (r8 (i7 (U3 (d9 (O7 (d9 l8 (d9 l8 j4)) rfl (Nat.le_of_ble_eq_true rfl)) (d9 (O7 (d9 l8 (d9 l8 j4)) rfl (Nat.le_of_ble_eq_true rfl)) (d9 (O7 (d9 l8 (d9 l8 j4)) rfl (Nat.le_of_ble_eq_true rfl)) j4))) rfl (Nat.le_of_ble_eq_true rfl)) k1 rfl rfl hi) rfl) (i8 (p4 (.inl hx)) (r8 l8 rfl)))) hL))) rfl
 ·by_cases h1:A8 ns 0 % 4=1
  ·refine c6 (a9p (f:=pD) (xs:=[(2,2),(1,1),(2,3)]) (n:=3) rfl (List.cons_ne_nil _ _) (A8 ns 1)) fun x hx hi=>?_
   refine f9 (b5d x false (b5a.2 x hx)) fun g e=>?_
   refine A6 (a6a ns (A8 ns 0 % 4) (.bl true) (some (.sh (pD x))) none none g (.inr ⟨true,rfl,e⟩)) fun a ρ hL=>?_
   exact K8 (i8 s1 (i8 s2 (i8 (A7 t0 (decide_eq_false h0) (M9 t1 (decide_eq_true h1) (i8 (r8 (i7 (U3 (d9 (O7 (d9 l8 (d9 l8 j4)) rfl (Nat.le_of_ble_eq_true rfl)) (d9 (O7 (d9 l8 (d9 l8 j4)) rfl (Nat.le_of_ble_eq_true rfl)) (d9 (O7 (d9 l8 (d9 l8 j4)) rfl (Nat.le_of_ble_eq_true rfl)) j4))) rfl (Nat.le_of_ble_eq_true rfl)) k1 rfl rfl hi) rfl) (i8 (p4 (.inr hx)) (r8 l8 rfl))))) hL))) rfl
  ·obtain ⟨v,hv⟩:∃ v:Nat,5 + A8 ns 1 % 2=(v:Int):=⟨(5 + A8 ns 1 % 2).toNat,by omega⟩
   have hv1:0 < v∧v≤8:=by omega
   have hm:0≤A8 ns 2 % 21∧A8 ns 2 % 21≤20:=by omega
   have s5:u6 5 (g9 O8 (mC (.int 5)) (g9 a0e (w5 [false,false] z6 (c9 (d8 0) (c9 (mC (.int 1)) j5))) (mC (.int 2)))) (wyE ns (A8 ns 0 % 4) none none none)=some (.nx (wyE ns (A8 ns 0 % 4) none (some (.sh (.int (v:Int)))) none)):=by
    rw [← hv]
    exact r8 (i7 l8 (i7 (G8 (d9 (d7 rfl) (d9 l8 j4)) rfl rfl a2C rfl rfl) l8 rfl rfl (M3 (by decide))) rfl rfl rfl) rfl
   have s6:u6 6 (g9 a0e (w5 [false,false] z6 (c9 (d8 0) (c9 (mC (.int 2)) j5))) (mC (.int 21))) (wyE ns (A8 ns 0 % 4) none (some (.sh (.int (v:Int)))) none)=some (.nx (wyE ns (A8 ns 0 % 4) none (some (.sh (.int (v:Int)))) (some (.sh (.int (A8 ns 2 % 21)))))):=r8 (i7 (G8 (d9 (d7 rfl) (d9 l8 j4)) rfl rfl a2C rfl rfl) l8 rfl rfl (M3 (by decide))) rfl
   generalize A8 ns 2 % 21=m at *
   have hi:ints1 [.int m]=some ((List.range m.toNat).map fun k=>D.int (0 + ((k:Nat):Int))):=A4 ⟨by omega,by omega⟩
   have hc:K6 (N5 0) N4 (w5 [false,false,false,false] L6 (c9 (d8 1) (c9 (g9 O8 (mC (.int 3)) (g9 a17 (mC (.int 5)) (d8 0))) (c9 (d8 2) (c9 (mC (.int 3)) j5))))) [none,some (.sh (.lst (ns.map D.int))),some (.sh (.int (v:Int)))] ((List.range m.toNat).map fun k=>D.int (0 + ((k:Nat):Int)))=some (J2 ((List.range m.toNat).map fun (k:Nat)=>a0D ns (3 + 5 * (0 + (k:Int))) (v:Int) 3)):=by
    unfold J2
    rw [List.map_map]
    exact O0 fun k _=>⟨[some (.sh (.int (0 + (k:Int)))),some (.sh (.lst (ns.map D.int))),some (.sh (.int (v:Int)))],.val (.tup ((a0D ns (3 + 5 * (0 + (k:Int))) (v:Int) 3).map D.int)),[some (.sh (.int (0 + (k:Int)))),some (.sh (.lst (ns.map D.int))),some (.sh (.int (v:Int)))],[some (.sh (.int (0 + (k:Int)))),some (.sh (.lst (ns.map D.int))),some (.sh (.int (v:Int)))],rfl,L8 (d9 (d7 rfl) (d9 (i7 l8 (i7 l8 (d7 rfl) rfl rfl (a1f (.inl ⟨by decide,by decide⟩))) rfl rfl rfl) (d9 (d7 rfl) (d9 l8 j4)))) rfl rfl (b0V (by omega) (by omega) (by decide) (by decide)) rfl (by rw [Bool.and_eq_true]; exact ⟨T6 _,rfl⟩),rfl⟩
   have mc:=O6 (mi:=a0O ints1 (c9 (d8 6) j5)) (own:=1) (fr:=[0,5]) (ρ:=wyE ns (A8 ns 0 % 4) none (some (.sh (.int (v:Int)))) (some (.sh (.int m)))) (ρ1:=wyE ns (A8 ns 0 % 4) none (some (.sh (.int (v:Int)))) (some (.sh (.int m)))) (a8A (d9 (d7 rfl) j4) rfl hi) (A9 (by rw [List.length_map,List.length_range]; omega)) hc (.inl (b1i _))
   refine A6 (a6a ns (A8 ns 0 % 4) .w6 none (some (.sh (.int (v:Int)))) (some (.sh (.int m))) (b5X ns (m:=m) hv1.1 hv1.2 hm.2) (.inl rfl)) fun a ρ hL=>?_
   exact K8 (i8 s1 (i8 s2 (i8 (A7 t0 (decide_eq_false h0) (A7 t1 (decide_eq_false h1) (i8 s5 (i8 s6 (r8 (O7 (d9 (d7 rfl) (d9 mc j4)) rfl (Nat.le_of_ble_eq_true rfl)) rfl))))) hL))) rfl
end K21
namespace L2
theorem ar1 {α:Type}{P:List α→Prop}(h:∀ a0,P [a0]):∀ us:List α,us.length=1→P us
 | [a0],_=>h a0
theorem ar2 {α:Type}{P:List α→Prop}(h:∀ a0 a1,P [a0,a1]):∀ us:List α,us.length=2→P us
 | [a0,a1],_=>h a0 a1
theorem ar3 {α:Type}{P:List α→Prop}(h:∀ a0 a1 a2,P [a0,a1,a2]):∀ us:List α,us.length=3→P us
 | [a0,a1,a2],_=>h a0 a1 a2
theorem ar4 {α:Type}{P:List α→Prop}(h:∀ a0 a1 a2 a3,P [a0,a1,a2,a3]):∀ us:List α,us.length=4→P us
 | [a0,a1,a2,a3],_=>h a0 a1 a2 a3
theorem ar5 {α:Type}{P:List α→Prop}(h:∀ a0 a1 a2 a3 a4,P [a0,a1,a2,a3,a4]):∀ us:List α,us.length=5→P us
 | [a0,a1,a2,a3,a4],_=>h a0 a1 a2 a3 a4
end L2
open PySem PySem.W PyProof.Rows
set_option maxRecDepth 100000 in
set_option maxHeartbeats 0 in
theorem PySem.Challenge.cw_clausekeep_k21_solved_wide_holds : PySem.Challenge.rw_clausekeep_k21_solved_wide.Holds := by
 w_on; o_law; k_head; (case hw=>w_witness2)
 k_fill
 refine L2.b2h (l:=PySem.Challenge.rw_clausekeep_k21_solved_wide) (k:=8) (x:="_law_script") rfl rfl ⟨rfl,by decide,by decide⟩ (fun w h Y=>PySem.W.kIn_of Y) ?F
 case F=>
  intro w mg fa h KX G hmg
  have D_law_cell:L2.Def (L2.KOf KX) mg "_law_cell" K21.a1B ["_law_script","_law_k"]:=by
   refine' L2.M7 KX G ?a ?l ?c ?k ?b
   (case a | l | c | k=>(dsimp only [L2.KOf]; k_is))
   (case b=>exact fun _ _ _ _ _ _=>L2.ar2 (fun _ _=>rfl))
  have D_law_mix:L2.Def (L2.KOf KX) mg "_law_mix" K21.a2Y ["_law_script","_law_k"]:=by
   refine' L2.M7 KX G ?a ?l ?c ?k ?b
   (case a | l | c | k=>(dsimp only [L2.KOf]; k_is))
   (case b=>exact fun _ _ _ _ _ _=>L2.ar2 (fun _ _=>rfl))
  have D_law_clause:L2.Def (L2.KOf KX) mg "_law_clause" K21.a0E ["_law_script","_law_base","_law_variables","_law_most"]:=by
   refine' L2.M7 KX G ?a ?l ?c ?k ?b
   (case a | l | c | k=>(dsimp only [L2.KOf]; k_is))
   (case b=>exact fun _ _ _ _ _ _=>L2.ar4 (fun _ _ _ _=>rfl))
  have D_numbered:L2.Def (L2.KOf KX) mg "numbered" K21.a1P ["clauses"]:=by
   refine' L2.M7 KX G ?a ?l ?c ?k ?b
   (case a | l | c | k=>(dsimp only [L2.KOf]; k_is))
   (case b=>exact fun _ _ _ _ _ _=>L2.ar1 (fun _=>rfl))
  have D_truths_of:L2.Def (L2.KOf KX) mg "truths_of" K21.a0Z ["literals"]:=by
   refine' L2.M7 KX G ?a ?l ?c ?k ?b
   (case a | l | c | k=>(dsimp only [L2.KOf]; k_is))
   (case b=>exact fun _ _ _ _ _ _=>L2.ar1 (fun _=>rfl))
  have D_opened:L2.Def (L2.KOf KX) mg "opened" K21.a4Y ["truths","clause"]:=by
   refine' L2.M7 KX G ?a ?l ?c ?k ?b
   (case a | l | c | k=>(dsimp only [L2.KOf]; k_is))
   (case b=>exact fun _ _ _ _ _ _=>L2.ar2 (fun _ _=>rfl))
  have D_spread:L2.Def (L2.KOf KX) mg "spread" K21.a33 ["table","truths","reasons"]:=by
   refine' L2.M7 KX G ?a ?l ?c ?k ?b
   (case a | l | c | k=>(dsimp only [L2.KOf]; k_is))
   (case b=>exact fun _ _ _ _ _ _=>L2.ar3 (fun _ _ _=>rfl))
  have D_learned:L2.Def (L2.KOf KX) mg "learned" K21.a2z ["table","chosen","truths","reasons","conflict"]:=by
   refine' L2.M7 KX G ?a ?l ?c ?k ?b
   (case a | l | c | k=>(dsimp only [L2.KOf]; k_is))
   (case b=>exact fun _ _ _ _ _ _=>L2.ar5 (fun _ _ _ _ _=>rfl))
  have D_solved:L2.Def (L2.KOf KX) mg "solved" K21.a4d ["variables","clauses"]:=by
   refine' L2.M7 KX G ?a ?l ?c ?k ?b
   (case a | l | c | k=>(dsimp only [L2.KOf]; k_is))
   (case b=>exact fun _ _ _ _ _ _=>L2.ar2 (fun _ _=>rfl))
  have D_has_both:L2.Def (L2.KOf KX) mg "has_both" K21.a1A ["clause"]:=by
   refine' L2.M7 KX G ?a ?l ?c ?k ?b
   (case a | l | c | k=>(dsimp only [L2.KOf]; k_is))
   (case b=>exact fun _ _ _ _ _ _=>L2.ar1 (fun _=>rfl))
  have D_take_hint:L2.Def (L2.KOf KX) mg "take_hint" K21.a0S ["table","truths","hint"]:=by
   refine' L2.M7 KX G ?a ?l ?c ?k ?b
   (case a | l | c | k=>(dsimp only [L2.KOf]; k_is))
   (case b=>exact fun _ _ _ _ _ _=>L2.ar3 (fun _ _ _=>rfl))
  have D_follows:L2.Def (L2.KOf KX) mg "follows" K21.a2L ["table","clause","hints"]:=by
   refine' L2.M7 KX G ?a ?l ?c ?k ?b
   (case a | l | c | k=>(dsimp only [L2.KOf]; k_is))
   (case b=>exact fun _ _ _ _ _ _=>L2.ar3 (fun _ _ _=>rfl))
  have D_checked:L2.Def (L2.KOf KX) mg "checked" K21.a1k ["variables","clauses","steps"]:=by
   refine' L2.M7 KX G ?a ?l ?c ?k ?b
   (case a | l | c | k=>(dsimp only [L2.KOf]; k_is))
   (case b=>exact fun _ _ _ _ _ _=>L2.ar3 (fun _ _ _=>rfl))
  have D_law_places:L2.Def (L2.KOf KX) mg "_law_places" K21.a0w ["_law_things","_law_places_here"]:=by
   refine' L2.M7 KX G ?a ?l ?c ?k ?b
   (case a | l | c | k=>(dsimp only [L2.KOf]; k_is))
   (case b=>exact fun _ _ _ _ _ _=>L2.ar2 (fun _ _=>rfl))
  have D_law:L2.Def (L2.KOf KX) mg "law" K21.b1q ["_law_script"]:=by
   refine' L2.M7 KX G ?a ?l ?c ?k ?b
   (case a | l | c | k=>(dsimp only [L2.KOf]; k_is))
   (case b=>exact fun _ _ _ _ _ _=>L2.ar1 (fun _=>rfl))
  have C_ENDS:L2.Cst mg "ENDS" (.str "ends"):=by
   refine' L2.a8Y KX G ?a ?r
   (case a=>k_is)
   (case r=>exact ⟨_,rfl⟩)
  have C_GOES_ON:L2.Cst mg "GOES_ON" (.str "goes on"):=by
   refine' L2.a8Y KX G ?a ?r
   (case a=>k_is)
   (case r=>exact ⟨_,rfl⟩)
  have C_WRONG:L2.Cst mg "WRONG" (.str "wrong"):=by
   refine' L2.a8Y KX G ?a ?r
   (case a=>k_is)
   (case r=>exact ⟨_,rfl⟩)
  have z_len:mg "len"=none:=PySem.W.mg_none_of KX G (by k_is)
  have z_range:mg "range"=none:=PySem.W.mg_none_of KX G (by k_is)
  have z_tuple:mg "tuple"=none:=PySem.W.mg_none_of KX G (by k_is)
  have z_dict:mg "dict"=none:=PySem.W.mg_none_of KX G (by k_is)
  have z_enumerate:mg "enumerate"=none:=PySem.W.mg_none_of KX G (by k_is)
  have z_abs:mg "abs"=none:=PySem.W.mg_none_of KX G (by k_is)
  have z_list:mg "list"=none:=PySem.W.mg_none_of KX G (by k_is)
  have z_reversed:mg "reversed"=none:=PySem.W.mg_none_of KX G (by k_is)
  have z_any:mg "any"=none:=PySem.W.mg_none_of KX G (by k_is)
  have z_sorted:mg "sorted"=none:=PySem.W.mg_none_of KX G (by k_is)
  have z_all:mg "all"=none:=PySem.W.mg_none_of KX G (by k_is)
  obtain ⟨C_Keeper,M_Keeper,O_Keeper,N_Keeper,Y_Keeper,D_Keeper___init__,D_Keeper_is_right,D_Keeper_add_clause,D_Keeper_take⟩:∃ C_Keeper,mg "Keeper"=some (.ref C_Keeper)∧L3.a2I (L2.KOf KX) C_Keeper ["variables","table","greatest","taken","refuted"]∧PySem.W.makesIn (L2.KOf KX) C_Keeper=true∧PySem.W.keepIn (L2.KOf KX) (.ref C_Keeper)=true∧L3.a6e (L2.KOf KX) C_Keeper "__init__" "Keeper.__init__" K21.F9 ["self","variables","clauses"]∧L3.a6e (L2.KOf KX) C_Keeper "is_right" "Keeper.is_right" K21.F6 ["self","number","clause","hints"]∧L3.a6e (L2.KOf KX) C_Keeper "add_clause" "Keeper.add_clause" K21.D5 ["self","number","clause","hints"]∧L3.a6e (L2.KOf KX) C_Keeper "take" "Keeper.take" K21.Q2 ["self","step"]:=by
   refine' ⟨_,PySem.W.mg_of KX G ?a,⟨⟨?c1,?c2,?c3,?c4⟩,?n⟩,?m,?k,?d0,?d1,?d2,?d3⟩
   (case a=>k_is); (case c1 | c2 | c3 | c4 | m | k=>(dsimp only [L2.KOf]; k_is))
   (case n=>(rintro k f hf; rcases k with _ | _ | _ | _ | _ | k <;> cases hf <;> (unfold L2.a0t; dsimp only [L2.KOf]; k_is)))
   (case d0=>(refine' L3.a3V ?a ?l ?c ?k ?n ?b; (case a | l | c | k | n=>(dsimp only [L2.KOf]; k_is)); (case b=>exact fun _ _ _ _ _ _=>L2.ar3 (fun _ _ _=>rfl))))
   (case d1=>(refine' L3.a3V ?a ?l ?c ?k ?n ?b; (case a | l | c | k | n=>(dsimp only [L2.KOf]; k_is)); (case b=>exact fun _ _ _ _ _ _=>L2.ar4 (fun _ _ _ _=>rfl))))
   (case d2=>(refine' L3.a3V ?a ?l ?c ?k ?n ?b; (case a | l | c | k | n=>(dsimp only [L2.KOf]; k_is)); (case b=>exact fun _ _ _ _ _ _=>L2.ar4 (fun _ _ _ _=>rfl))))
   (case d3=>(refine' L3.a3V ?a ?l ?c ?k ?n ?b; (case a | l | c | k | n=>(dsimp only [L2.KOf]; k_is)); (case b=>exact fun _ _ _ _ _ _=>L2.ar2 (fun _ _=>rfl))))
  have H_law_cell:=fun base=>D_law_cell.has (P:=PySem.Challenge.rw_clausekeep_k21_solved_wide.prog) (w:=w) (base:=base) fun f fd F=>(K21.a5W F z_len).imp (L3.Q4.imp K21.a42)
  have H_law_mix:=fun base=>D_law_mix.has (P:=PySem.Challenge.rw_clausekeep_k21_solved_wide.prog) (w:=w) (base:=base) fun f fd F=>(K21.a7h F (H_law_cell base)).imp (L3.Q4.imp K21.a6C)
  have H_law_clause:=fun base=>D_law_clause.has (P:=PySem.Challenge.rw_clausekeep_k21_solved_wide.prog) (w:=w) (base:=base) fun f fd F=>(K21.a4g F z_range z_tuple (H_law_mix base)).imp (L3.Q4.imp K21.a3J)
  have H_numbered:=fun base=>D_numbered.has (P:=PySem.Challenge.rw_clausekeep_k21_solved_wide.prog) (w:=w) (base:=base) fun f fd F=>(K21.a5Y F z_dict z_enumerate).imp (L3.Q4.imp K21.a43)
  have H_truths_of:=fun base=>D_truths_of.has (P:=PySem.Challenge.rw_clausekeep_k21_solved_wide.prog) (w:=w) (base:=base) fun f fd F=>(K21.a5c F z_dict z_abs).imp (L3.Q4.imp K21.a4A)
  have H_opened:=fun base=>D_opened.has (P:=PySem.Challenge.rw_clausekeep_k21_solved_wide.prog) (w:=w) (base:=base) fun f fd F=>(K21.a8I F z_abs z_list).imp (L3.Q4.imp K21.a7x)
  have H_spread:=fun base=>D_spread.has (P:=PySem.Challenge.rw_clausekeep_k21_solved_wide.prog) (w:=w) (base:=base) fun f fd F=>L3.b9q ((K21.a8y F z_len z_abs (H_opened base)).imp (L3.a8q.imp K21.a63)) rfl rfl K21.a77
  have H_learned:=fun base=>D_learned.has (P:=PySem.Challenge.rw_clausekeep_k21_solved_wide.prog) (w:=w) (base:=base) fun f fd F=>(K21.a7c F z_dict z_abs z_reversed z_list z_len z_tuple).imp (L3.Q4.imp K21.a6m)
  have H_solved:=fun base=>D_solved.has (P:=PySem.Challenge.rw_clausekeep_k21_solved_wide.prog) (w:=w) (base:=base) fun f fd F=>(K21.a8G F z_range z_tuple (H_numbered base) (H_truths_of base) (H_spread base) (H_learned base)).imp (L3.Q4.imp K21.a61)
  have H_has_both:=fun base=>D_has_both.has (P:=PySem.Challenge.rw_clausekeep_k21_solved_wide.prog) (w:=w) (base:=base) fun f fd F=>(K21.a50 F ).imp (L3.Q4.imp K21.a5e)
  have H_take_hint:=fun base=>D_take_hint.has (P:=PySem.Challenge.rw_clausekeep_k21_solved_wide.prog) (w:=w) (base:=base) fun f fd F=>(K21.a47 F z_len z_abs C_WRONG C_ENDS C_GOES_ON (H_opened base)).imp (L3.Q4.imp K21.a4y)
  have H_follows:=fun base=>D_follows.has (P:=PySem.Challenge.rw_clausekeep_k21_solved_wide.prog) (w:=w) (base:=base) fun f fd F=>(K21.a6Y F z_len C_GOES_ON C_ENDS (H_has_both base) (H_truths_of base) (H_take_hint base)).imp (L3.Q4.imp K21.a6H)
  have H_Keeper___init__:=fun base=>D_Keeper___init__.b9P (P:=PySem.Challenge.rw_clausekeep_k21_solved_wide.prog) (w:=w) (mg:=mg) (base:=base) N_Keeper Y_Keeper fun f fd F=>(K21.a1n F z_len O_Keeper (H_numbered base)).imp (L3.SpI.imp K21.a0V)
  have H_Keeper_is_right:=fun base=>D_Keeper_is_right.has (P:=PySem.Challenge.rw_clausekeep_k21_solved_wide.prog) (w:=w) (mg:=mg) (base:=base) fun f fd F=>(K21.a1l F z_any z_abs O_Keeper (H_follows base)).imp (L3.SpM.imp K21.a05)
  have H_Keeper_add_clause:=fun base=>D_Keeper_add_clause.has (P:=PySem.Challenge.rw_clausekeep_k21_solved_wide.prog) (w:=w) (mg:=mg) (base:=base) fun f fd F=>(K21.a0K F O_Keeper (H_Keeper_is_right base)).imp (L3.SpM.imp K21.a0A)
  have H_Keeper_take:=fun base=>D_Keeper_take.has (P:=PySem.Challenge.rw_clausekeep_k21_solved_wide.prog) (w:=w) (mg:=mg) (base:=base) fun f fd F=>(K21.a3B F O_Keeper (H_Keeper_add_clause base)).imp (L3.SpM.imp K21.a2T)
  have H_checked:=fun base=>D_checked.has (P:=PySem.Challenge.rw_clausekeep_k21_solved_wide.prog) (w:=w) (base:=base) fun f fd F=>(K21.a7U F O_Keeper M_Keeper (H_Keeper___init__ base) (H_Keeper_take base)).imp (L3.Q4.imp K21.a5U)
  have H_law_places:=fun base=>D_law_places.has (P:=PySem.Challenge.rw_clausekeep_k21_solved_wide.prog) (w:=w) (base:=base) fun f fd F=>(K21.a4N F z_tuple z_range).imp (L3.Q4.imp K21.a3w)
  exact L2.b50 D_law hmg (fun f fd F base _ _=>(K21.b4H F z_range z_list z_abs z_sorted z_all z_any (H_law_mix base) (H_law_places base) (H_law_clause base) (H_solved base) (H_checked base)).imp (L3.b3M K21.b2p))
#print axioms PySem.Challenge.cw_clausekeep_k21_solved_wide_holds
