import doctest


def load_tests(loader, tests, pattern):
    tests.addTests(doctest.DocFileSuite("examples.txt", "../README.md"))
    return tests
